import PyProof.Rows.All
import PyIe12
import Wide.All
import OpenK.AllK
import Wide.FinOn
import Open.SpecLaws
import KE.OsGo
import HandS.ForSpec
import HandS.ForMost
import HandS.Walk
import HandS.Evl
import HandS.Codes
import HandS.CallLocal
import HandS.Rev
import PySem.Challenge.RW_filmframes_s01_answers
import PyFlatLaws
set_option Elab.async false
set_option linter.all false
set_option maxRecDepth 100000
namespace FF
open Ie12

/-! ### sums -/
theorem foldl_add (l : List Nat) : ∀ a : Nat, l.foldl (fun a b => a + b) a = a + l.sum := by
  induction l with
  | nil => intro a; simp
  | cons x r ih => intro a; rw [List.foldl_cons, ih, List.sum_cons]; omega
theorem sum_eq (l : List Nat) : Ie12.sum l = l.sum := by
  unfold Ie12.sum
  rw [foldl_add]; omega
def tks (fs : List Frame) : Nat := (fs.map fun x => x.ticks).sum
theorem long_eq (f : Film) : f.long = tks f.frames := sum_eq _
theorem tks_nil : tks [] = 0 := rfl
theorem tks_cons (x : Frame) (l : List Frame) : tks (x :: l) = x.ticks + tks l := by
  unfold tks; rw [List.map_cons, List.sum_cons]
theorem tks_append (a b : List Frame) : tks (a ++ b) = tks a + tks b := by
  unfold tks; rw [List.map_append, List.sum_append]
theorem tks_reverse (a : List Frame) : tks a.reverse = tks a := by
  induction a with
  | nil => rfl
  | cons x r ih => rw [List.reverse_cons, tks_append, ih, tks_cons, tks_cons, tks_nil]; omega

/-! ### what always holds of a film -/
structure GoodX (n : Nat) (x : Frame) : Prop where
  len : x.cells.length = n
  col : ∀ c ∈ x.cells, c ≤ 255
  tk : 1 ≤ x.ticks
structure GoodF (f : Film) : Prop where
  w1 : 1 ≤ f.w
  w6 : f.w ≤ 6
  h1 : 1 ≤ f.h
  h6 : f.h ≤ 6
  lp : f.loop ≤ 2
  n1 : 1 ≤ f.frames.length
  n12 : f.frames.length ≤ 12
  fr : ∀ x ∈ f.frames, GoodX (f.w * f.h) x
  lg : tks f.frames ≤ 1000
structure GoodS (s : Ie12.St) : Prop where
  film : GoodF s.film
  few : s.old.length ≤ 8
  old : ∀ f ∈ s.old, GoodF f

theorem GoodF.area (g : GoodF f) : 1 ≤ f.w * f.h ∧ f.w * f.h ≤ 36 := by
  have h1 := g.w1; have h2 := g.w6; have h3 := g.h1; have h4 := g.h6
  constructor
  · exact Nat.mul_pos h1 h3
  · exact Nat.le_trans (Nat.mul_le_mul h2 h4) (by decide)
theorem tks_ge {n : Nat} : ∀ (l : List Frame), (∀ x ∈ l, GoodX n x) → l.length ≤ tks l
  | [], _ => Nat.le_refl _
  | x :: r, h => by
    have ih := tks_ge r fun y hy => h y (List.mem_cons_of_mem _ hy)
    have h1 := (h x (List.mem_cons_self ..)).tk
    rw [tks_cons, List.length_cons]; omega
theorem GoodF.long1 (g : GoodF f) : 1 ≤ tks f.frames := Nat.le_trans g.n1 (tks_ge _ g.fr)

theorem good_init : GoodS Ie12.init := by
  refine ⟨⟨by decide, by decide, by decide, by decide, by decide, by decide, by decide, fun x hx => ?_, by decide⟩, by decide, fun f hf => by cases hf⟩
  have e : x = ⟨[0], 1⟩ := by simpa [Ie12.init] using hx
  subst e
  exact ⟨rfl, fun c hc => by have : c = 0 := by simpa using hc
                             omega, Nat.le_refl _⟩
theorem good_become {s : Ie12.St} {f : Film} (g : GoodS s) (h : GoodF f) : GoodS (become s f).1 := by
  refine ⟨h, ?_, fun x hx => ?_⟩
  · show ((s.film :: s.old).take 8).length ≤ 8
    rw [List.length_take]; omega
  · have hx' : x ∈ (s.film :: s.old).take 8 := hx
    rcases List.mem_cons.mp (List.mem_of_mem_take hx') with e | m
    · rw [e]; exact g.film
    · exact g.old x m

/-! ### put, drop, set -/
theorem doubled_eq {α : Type} {l : List α} {i : Nat} {x : α} (h : l[i]? = some x) : l.take (i + 1) ++ l.drop i = l.take (i + 1) ++ x :: l.drop (i + 1) := by
  obtain ⟨hi, e⟩ := List.getElem?_eq_some_iff.mp h
  rw [← e, List.drop_eq_getElem_cons hi]
theorem tks_doubled {l : List Frame} {i : Nat} {x : Frame} (h : l[i]? = some x) : tks (l.take (i + 1) ++ x :: l.drop (i + 1)) = tks l + x.ticks := by
  have e : tks l = tks (l.take (i + 1)) + tks (l.drop (i + 1)) := by rw [← tks_append, List.take_append_drop]
  rw [tks_append, tks_cons, e]; omega
theorem tks_set {l : List Frame} {i : Nat} {x y : Frame} (h : l[i]? = some x) : tks (l.set i y) + x.ticks = tks l + y.ticks := by
  obtain ⟨hi, e⟩ := List.getElem?_eq_some_iff.mp h
  have e2 : l.set i y = l.take i ++ y :: l.drop (i + 1) := List.set_eq_take_append_cons_drop ▸ by rw [if_pos hi]
  have e1 : tks l = tks (l.take i) + (x.ticks + tks (l.drop (i + 1))) := by
    rw [← tks_cons, ← tks_append]
    congr 1
    rw [← e, ← List.drop_eq_getElem_cons hi, List.take_append_drop]
  rw [e2, tks_append, tks_cons, e1]; omega
theorem set_eq {α : Type} {l : List α} {i : Nat} {y : α} (hi : i < l.length) : l.set i y = l.take i ++ [y] ++ l.drop (i + 1) := by
  rw [List.set_eq_take_append_cons_drop, if_pos hi]; simp
theorem erase_eq {α : Type} (l : List α) (i : Nat) : l.eraseIdx i = l.take i ++ l.drop (i + 1) := List.eraseIdx_eq_take_drop_succ l i
theorem tks_erase_le (l : List Frame) (i : Nat) : tks (l.eraseIdx i) ≤ tks l := by
  have e : tks l = tks (l.take i) + tks (l.drop i) := by rw [← tks_append, List.take_append_drop]
  have e2 : tks (l.drop (i + 1)) ≤ tks (l.drop i) := by
    by_cases hi : i < l.length
    · rw [List.drop_eq_getElem_cons hi, tks_cons]; omega
    · rw [List.drop_eq_nil_of_le (by omega : l.length ≤ i + 1)]; exact Nat.zero_le _
  rw [erase_eq, tks_append, e]; omega

/-! ### alike neighbours -/
/-- one more frame behind those that are put together -/
def join1 (l : List Frame) (x : Frame) : List Frame := match l.getLast? with
  | none => [x]
  | some b => if b.cells = x.cells then l.dropLast ++ [⟨b.cells, b.ticks + x.ticks⟩] else l ++ [x]
theorem together_cons (a : Frame) (l : List Frame) : Ie12.together (a :: l) = match Ie12.together l with
    | [] => [a]
    | b :: r => if a.cells = b.cells then ⟨a.cells, a.ticks + b.ticks⟩ :: r else a :: b :: r := rfl
theorem together_ne (a : Frame) (l : List Frame) : Ie12.together (a :: l) ≠ [] := by
  rw [together_cons]
  cases Ie12.together l with
  | nil => simp
  | cons b r => dsimp only; split <;> simp
theorem join1_nil (x : Frame) : join1 [] x = [x] := rfl
theorem join1_one (b x : Frame) : join1 [b] x = if b.cells = x.cells then [⟨b.cells, b.ticks + x.ticks⟩] else [b, x] := by
  unfold join1
  simp
theorem join1_cons (a b : Frame) (r : List Frame) (x : Frame) : join1 (a :: b :: r) x = a :: join1 (b :: r) x := by
  unfold join1
  rw [List.getLast?_cons_cons]
  cases h : (b :: r).getLast? with
  | none => simp at h
  | some c =>
    dsimp only
    split
    · simp
    · rfl
theorem join1_snoc (l : List Frame) (b x : Frame) : join1 (l ++ [b]) x = if b.cells = x.cells then l ++ [⟨b.cells, b.ticks + x.ticks⟩] else l ++ [b] ++ [x] := by
  unfold join1
  rw [List.getLast?_append]
  simp
theorem together_snoc : ∀ (l : List Frame) (x : Frame), Ie12.together (l ++ [x]) = join1 (Ie12.together l) x
  | [], x => rfl
  | a :: l, x => by
    have ih := together_snoc l x
    rw [List.cons_append, together_cons, together_cons, ih]
    cases h : Ie12.together l with
    | nil =>
      rw [join1_nil]; dsimp only
      rw [join1_one]
    | cons b r =>
      dsimp only
      cases r with
      | nil =>
        rw [join1_one]
        by_cases e1 : b.cells = x.cells
        · rw [if_pos e1]; dsimp only
          by_cases e2 : a.cells = b.cells
          · rw [if_pos e2, if_pos e2, join1_one, if_pos (e2.trans e1)]; dsimp only; rw [Nat.add_assoc]
          · rw [if_neg e2, if_neg e2, join1_cons, join1_one, if_pos e1]
        · rw [if_neg e1]; dsimp only
          by_cases e2 : a.cells = b.cells
          · rw [if_pos e2, if_pos e2, join1_one]; dsimp only
            rw [if_neg (by rw [e2]; exact e1)]
          · rw [if_neg e2, if_neg e2, join1_cons, join1_one, if_neg e1]
      | cons c q =>
        rw [join1_cons]; dsimp only
        by_cases e2 : a.cells = b.cells
        · rw [if_pos e2, if_pos e2, join1_cons]
        · rw [if_neg e2, if_neg e2, join1_cons, join1_cons]
theorem together_good {n : Nat} : ∀ (l : List Frame), (∀ x ∈ l, GoodX n x) → ∀ x ∈ Ie12.together l, GoodX n x
  | [], _, x, hx => by cases hx
  | a :: l, h, x, hx => by
    have ha := h a (List.mem_cons_self ..)
    have ih := together_good l fun y hy => h y (List.mem_cons_of_mem _ hy)
    rw [together_cons] at hx
    cases e : Ie12.together l with
    | nil =>
      rw [e] at hx; dsimp only at hx
      have : x = a := by simpa using hx
      rw [this]; exact ha
    | cons b r =>
      rw [e] at hx ih; dsimp only at hx
      split at hx
      · rcases List.mem_cons.mp hx with e1 | m
        · rw [e1]; exact ⟨ha.len, ha.col, Nat.le_trans ha.tk (Nat.le_add_right _ _)⟩
        · exact ih x (List.mem_cons_of_mem _ m)
      · rcases List.mem_cons.mp hx with e1 | m
        · rw [e1]; exact ha
        · exact ih x m
theorem together_tks : ∀ (l : List Frame), tks (Ie12.together l) = tks l
  | [] => rfl
  | a :: l => by
    have ih := together_tks l
    rw [together_cons, tks_cons, ← ih]
    cases e : Ie12.together l with
    | nil => dsimp only; rw [tks_cons]
    | cons b r =>
      dsimp only
      split
      · rw [tks_cons, tks_cons]; dsimp only; omega
      · rw [tks_cons]
theorem together_len : ∀ (l : List Frame), (Ie12.together l).length ≤ l.length
  | [] => Nat.le_refl _
  | a :: l => by
    have ih := together_len l
    rw [together_cons, List.length_cons]
    cases e : Ie12.together l with
    | nil => dsimp only; simp
    | cons b r =>
      rw [e] at ih
      dsimp only
      split <;> simp_all <;> omega

/-! ### a stretch -/
/-- tick by tick's own way: what each frame has of the ticks from a on below e, the frames beginning at s -/
def cut (a e : Nat) : Nat → List Frame → List Frame
  | _, [] => []
  | s, x :: l => if max s a < min (s + x.ticks) e then ⟨x.cells, min (s + x.ticks) e - max s a⟩ :: cut a e (s + x.ticks) l else cut a e (s + x.ticks) l
theorem cut_cons (a e s : Nat) (x : Frame) (l : List Frame) : cut a e s (x :: l) = if max s a < min (s + x.ticks) e then ⟨x.cells, min (s + x.ticks) e - max s a⟩ :: cut a e (s + x.ticks) l else cut a e (s + x.ticks) l := rfl
theorem cut_append (a e : Nat) : ∀ (l r : List Frame) (s : Nat), cut a e s (l ++ r) = cut a e s l ++ cut a e (s + tks l) r
  | [], r, s => by show cut a e s r = [] ++ cut a e (s + 0) r; rw [List.nil_append, Nat.add_zero]
  | x :: l, r, s => by
    rw [List.cons_append, cut_cons, cut_cons, tks_cons, cut_append a e l r (s + x.ticks), Nat.add_assoc]
    split <;> rfl
theorem cut_done (a e : Nat) : ∀ (l : List Frame) (s : Nat), e ≤ s → cut a e s l = []
  | [], _, _ => rfl
  | x :: l, s, h => by
    rw [cut_cons]
    rw [if_neg (by omega)]
    exact cut_done a e l _ (by omega)
theorem stretch_cut : ∀ (l : List Frame) (a n s : Nat), Ie12.stretch l a n = cut (s + a) (s + a + n) s l
  | [], _, _, _ => rfl
  | x :: l, a, n, s => by
    unfold Ie12.stretch
    by_cases h0 : n = 0
    · rw [if_pos h0]
      subst h0
      rw [cut_cons]
      rw [if_neg (by omega)]
      have : ∀ (l : List Frame) (s' : Nat), cut (s + a) (s + a + 0) s' l = [] := by
        intro l
        induction l with
        | nil => intro _; rfl
        | cons y r ih => intro s'; rw [cut_cons]; rw [if_neg (by omega)]; exact ih _
      exact (this _ _).symm
    · rw [if_neg h0]
      by_cases h1 : x.ticks ≤ a
      · rw [if_pos h1]
        rw [cut_cons]
        rw [if_neg (by omega), stretch_cut l (a - x.ticks) n (s + x.ticks)]
        rw [show s + x.ticks + (a - x.ticks) = s + a by omega]
      · rw [if_neg h1]
        rw [cut_cons]
        rw [if_pos (by omega)]
        dsimp only
        have e1 : min n (x.ticks - a) = min (s + x.ticks) (s + a + n) - max s (s + a) := by omega
        rw [e1]
        congr 1
        by_cases h2 : n ≤ x.ticks - a
        · rw [cut_done _ _ l _ (by omega)]
          rw [show n - (min (s + x.ticks) (s + a + n) - max s (s + a)) = 0 by omega]
          cases l with
          | nil => rfl
          | cons y r => unfold Ie12.stretch; rw [if_pos rfl]
        · have ih := stretch_cut l 0 (n - (min (s + x.ticks) (s + a + n) - max s (s + a))) (s + x.ticks)
          rw [ih]
          rw [show s + x.ticks + 0 + (n - (min (s + x.ticks) (s + a + n) - max s (s + a))) = s + a + n by omega]
          -- both begin within what is left
          have hb : ∀ (l : List Frame) (s' b c : Nat), b ≤ s' → c ≤ s' → ∀ e, cut b e s' l = cut c e s' l := by
            intro l
            induction l with
            | nil => intro _ _ _ _ _ _; rfl
            | cons y r ih =>
              intro s' b c hb hc e
              rw [cut_cons, cut_cons]
              rw [show max s' b = max s' c by omega, ih (s' + y.ticks) b c (by omega) (by omega)]
          exact hb l _ _ _ (by omega) (by omega) _
theorem cut_good {n a e : Nat} : ∀ (l : List Frame) (s : Nat), (∀ x ∈ l, GoodX n x) → ∀ x ∈ cut a e s l, GoodX n x
  | [], _, _, x, hx => by cases hx
  | y :: l, s, h, x, hx => by
    have ih := cut_good (a := a) (e := e) l (s + y.ticks) fun z hz => h z (List.mem_cons_of_mem _ hz)
    have hy := h y (List.mem_cons_self ..)
    rw [cut_cons] at hx
    split at hx
    · rcases List.mem_cons.mp hx with e1 | m
      · rw [e1]; exact ⟨hy.len, hy.col, by dsimp only; omega⟩
      · exact ih x m
    · exact ih x hx
theorem cut_len {a e : Nat} : ∀ (l : List Frame) (s : Nat), (cut a e s l).length ≤ l.length
  | [], _ => Nat.le_refl _
  | y :: l, s => by
    have ih := cut_len (a := a) (e := e) l (s + y.ticks)
    rw [cut_cons]
    split
    · rw [List.length_cons, List.length_cons]; omega
    · rw [List.length_cons]; omega
theorem cut_tks {a e : Nat} : ∀ (l : List Frame) (s : Nat), tks (cut a e s l) = min (s + tks l) e - max s a
  | [], s => by show 0 = min (s + 0) e - max s a; omega
  | y :: l, s => by
    have ih := cut_tks (a := a) (e := e) l (s + y.ticks)
    rw [cut_cons]
    rw [tks_cons]
    split
    · rw [tks_cons, ih]; dsimp only; omega
    · rw [ih]; omega
theorem stretch_good {f : Film} {a n : Nat} (g : GoodF f) (hn : 1 ≤ n) (h : a + n ≤ tks f.frames) : GoodF { f with frames := Ie12.stretch f.frames a n } := by
  have e : Ie12.stretch f.frames a n = cut a (a + n) 0 f.frames := by
    have := stretch_cut f.frames a n 0
    rw [Nat.zero_add] at this
    exact this
  have ht : tks (Ie12.stretch f.frames a n) = n := by rw [e, cut_tks]; omega
  have hg : ∀ x ∈ Ie12.stretch f.frames a n, GoodX (f.w * f.h) x := by rw [e]; exact cut_good _ _ g.fr
  refine ⟨g.w1, g.w6, g.h1, g.h6, g.lp, ?_, ?_, hg, ?_⟩
  · show 1 ≤ (Ie12.stretch f.frames a n).length
    cases h2 : Ie12.stretch f.frames a n with
    | nil => rw [h2] at ht; rw [tks_nil] at ht; omega
    | cons x r => rw [List.length_cons]; omega
  · show (Ie12.stretch f.frames a n).length ≤ 12
    rw [e]; exact Nat.le_trans (cut_len _ _) g.n12
  · show tks (Ie12.stretch f.frames a n) ≤ 1000
    rw [ht]; have := g.lg; omega
end FF

set_option Elab.async false
set_option linter.all false
set_option maxRecDepth 100000
namespace FF
open Ie12

/-! ### brought to another length -/
def gaps (n m : Nat) (l : List Frame) (t p : Nat) : List Nat := ((ends n m l t).zip (p :: ends n m l t)).map fun q => q.1 - q.2
theorem gaps_nil (n m t p : Nat) : gaps n m [] t p = [] := rfl
theorem gaps_cons (n m : Nat) (x : Frame) (l : List Frame) (t p : Nat) : gaps n m (x :: l) t p = (near ((t + x.ticks) * m) n - p) :: gaps n m l (t + x.ticks) (near ((t + x.ticks) * m) n) := rfl
theorem gaps_len (n m : Nat) : ∀ (l : List Frame) (t p : Nat), (gaps n m l t p).length = l.length
  | [], _, _ => rfl
  | x :: l, t, p => by rw [gaps_cons, List.length_cons, List.length_cons, gaps_len n m l]
theorem gaps_sum (n m : Nat) : ∀ (l : List Frame) (t p : Nat), (∀ d ∈ gaps n m l t p, 0 < d) → l ≠ [] → p + (gaps n m l t p).sum = near ((t + tks l) * m) n
  | [], _, _, _, h => absurd rfl h
  | [x], t, p, h, _ => by
    rw [gaps_cons, gaps_nil] at h ⊢
    have h1 := h _ (List.mem_cons_self ..)
    rw [tks_cons, tks_nil, List.sum_cons, List.sum_nil, Nat.add_zero x.ticks]
    omega
  | x :: y :: l, t, p, h, _ => by
    rw [gaps_cons] at h ⊢
    have h1 := h _ (List.mem_cons_self ..)
    have ih := gaps_sum n m (y :: l) (t + x.ticks) (near ((t + x.ticks) * m) n) (fun d hd => h d (List.mem_cons_of_mem _ hd)) (by simp)
    rw [List.sum_cons, tks_cons x, ← Nat.add_assoc t, ← ih]
    omega
theorem near_self {n m : Nat} (h : 1 ≤ n) : near (n * m) n = m := by
  unfold near
  have e : 2 * (n * m) + n = n + (2 * n) * m := by rw [Nat.mul_assoc]; omega
  rw [e, Nat.add_mul_div_left _ _ (by omega : 0 < 2 * n), Nat.div_eq_of_lt (by omega), Nat.zero_add]
theorem brought_eq (f : Film) (m : Nat) : brought f m = if (gaps f.long m f.frames 0 0).all (fun n => decide (0 < n)) = true then some ((f.frames.zip (gaps f.long m f.frames 0 0)).map fun q => (⟨q.1.cells, q.2⟩ : Frame)) else none := rfl
theorem tks_zip : ∀ (l : List Frame) (k : List Nat), k.length = l.length → tks ((l.zip k).map fun q => (⟨q.1.cells, q.2⟩ : Frame)) = k.sum
  | [], [], _ => rfl
  | [], _ :: _, h => by simp at h
  | _ :: _, [], h => by simp at h
  | x :: l, a :: k, h => by
    have ih := tks_zip l k (by simpa using h)
    rw [List.zip_cons_cons, List.map_cons, tks_cons, ih, List.sum_cons]
theorem brought_good {f : Film} {m : Nat} {l : List Frame} (g : GoodF f) (hm : m ≤ 1000) (h : brought f m = some l) : GoodF { f with frames := l } := by
  rw [brought_eq] at h
  split at h
  · rename_i ha
    have ha' : ∀ d ∈ gaps f.long m f.frames 0 0, 0 < d := fun d hd => of_decide_eq_true (List.all_eq_true.mp ha d hd)
    have e := Option.some.inj h
    have hlen : l.length = f.frames.length := by rw [← e, List.length_map, List.length_zip, gaps_len]; omega
    have hne : f.frames ≠ [] := by intro z; have := g.n1; rw [z] at this; simp at this
    have hs := gaps_sum f.long m f.frames 0 0 ha' hne
    rw [Nat.zero_add, Nat.zero_add, long_eq, near_self g.long1] at hs
    refine ⟨g.w1, g.w6, g.h1, g.h6, g.lp, by show 1 ≤ l.length; rw [hlen]; exact g.n1, by show l.length ≤ 12; rw [hlen]; exact g.n12, fun x hx => ?_, ?_⟩
    · have hx' : x ∈ (f.frames.zip (gaps f.long m f.frames 0 0)).map fun q => (⟨q.1.cells, q.2⟩ : Frame) := by rw [e]; exact hx
      obtain ⟨q, hq, rfl⟩ := List.mem_map.mp hx'
      have h1 := g.fr q.1 (List.of_mem_zip (a := q.1) (b := q.2) hq).1
      have h2 := ha' q.2 (List.of_mem_zip (a := q.1) (b := q.2) hq).2
      exact ⟨h1.len, h1.col, h2⟩
    · show tks l ≤ 1000
      rw [← e, tks_zip _ _ (gaps_len ..), long_eq, hs]; exact hm
  · cases h

/-! ### read -/
structure GoodC (w h : Nat) (x : Nat × Change) : Prop where
  t1 : 1 ≤ x.1
  x1 : x.2.x + x.2.u ≤ w
  y1 : x.2.y + x.2.v ≤ h
  ln : x.2.cells.length = x.2.u * x.2.v
  col : ∀ c ∈ x.2.cells, c ≤ 255
theorem changesOf_good (w h : Nat) : ∀ (k : Nat) (l : List Nat) (c : List (Nat × Change)), changesOf w h k l = some c → ∀ x ∈ c, GoodC w h x
  | 0, _, _, e, _, _ => by cases e
  | _ + 1, [], c, e, x, hx => by
    have : c = [] := (Option.some.inj e).symm
    rw [this] at hx; cases hx
  | k + 1, t :: x :: y :: u :: v :: l, c, e, z, hz => by
    unfold changesOf at e
    split at e
    · cases e
    · rename_i hn
      cases hr : changesOf w h k (l.drop (u * v)) with
      | none => rw [hr] at e; cases e
      | some r =>
        rw [hr] at e
        have e' : c = (t, ⟨x, y, u, v, l.take (u * v)⟩) :: r := (Option.some.inj e).symm
        rw [e'] at hz
        rcases List.mem_cons.mp hz with e1 | m
        · rw [e1]
          refine ⟨by dsimp only; omega, by dsimp only; omega, by dsimp only; omega, ?_, fun c hc => ?_⟩
          · dsimp only; rw [List.length_take]; omega
          · have ha : ¬ (l.take (u * v)).any (fun n => decide (255 < n)) = true := fun z => hn (by simp only [z]; simp)
            rw [List.any_eq_true] at ha
            by_cases h2 : c ≤ 255
            · exact h2
            · exact absurd ⟨c, hc, by simp; omega⟩ ha
        · exact changesOf_good w h k _ r hr z m
  | _ + 1, [_], _, e, _, _ => by cases e
  | _ + 1, [_, _], _, e, _, _ => by cases e
  | _ + 1, [_, _, _], _, e, _, _ => by cases e
  | _ + 1, [_, _, _, _], _, e, _, _ => by cases e
theorem changed_len (w : Nat) (a : List Nat) (c : Change) : (changed w a c).length = a.length := by
  unfold changed; rw [List.length_map, List.length_zipIdx]
theorem changed_col {w : Nat} {a : List Nat} {c : Change} (h1 : ∀ x ∈ a, x ≤ 255) (h2 : ∀ x ∈ c.cells, x ≤ 255) : ∀ x ∈ changed w a c, x ≤ 255 := by
  intro x hx
  unfold changed at hx
  obtain ⟨q, hq, rfl⟩ := List.mem_map.mp hx
  dsimp only
  split
  · rw [List.getD_eq_getElem?_getD]
    cases e : c.cells[(q.2 / w - c.y) * c.u + (q.2 % w - c.x)]? with
    | none => exact Nat.zero_le _
    | some v => exact h2 v (List.mem_of_getElem? e)
  · have := List.mem_zipIdx (x := q.1) (i := q.2) hq
    exact h1 q.1 (by rw [this.2.2]; exact List.getElem_mem _)
theorem framesOf_good {w h : Nat} : ∀ (c : List (Nat × Change)) (a : List Nat), a.length = w * h → (∀ x ∈ a, x ≤ 255) → (∀ x ∈ c, GoodC w h x) → ∀ x ∈ framesOf w a c, GoodX (w * h) x
  | [], _, _, _, _, x, hx => by cases hx
  | z :: c, a, hl, hc, hg, x, hx => by
    have hz := hg z (List.mem_cons_self ..)
    have hb := changed_col (w := w) hc hz.col
    rcases List.mem_cons.mp hx with e | m
    · rw [e]; exact ⟨by dsimp only; rw [changed_len]; exact hl, hb, hz.t1⟩
    · exact framesOf_good c _ (by rw [changed_len]; exact hl) hb (fun y hy => hg y (List.mem_cons_of_mem _ hy)) x m
theorem framesOf_len (w : Nat) : ∀ (c : List (Nat × Change)) (a : List Nat), (framesOf w a c).length = c.length
  | [], _ => rfl
  | z :: c, a => by
    show (framesOf w (changed w a z.2) c).length + 1 = c.length + 1
    rw [framesOf_len w c]
theorem framesOf_tks (w : Nat) : ∀ (c : List (Nat × Change)) (a : List Nat), tks (framesOf w a c) = (c.map fun x => x.1).sum
  | [], _ => rfl
  | z :: c, a => by
    show tks (⟨changed w a z.2, z.1⟩ :: framesOf w (changed w a z.2) c) = _
    rw [tks_cons, framesOf_tks w c, List.map_cons, List.sum_cons]
theorem blank_len (w h : Nat) : (blank w h).length = w * h := List.length_replicate
theorem blank_col (w h : Nat) : ∀ x ∈ blank w h, x ≤ 255 := fun x hx => by
  have := (List.mem_replicate.mp hx).2
  omega
theorem sizeOk_iff {w h : Nat} : sizeOk w h = true ↔ (1 ≤ w ∧ w ≤ 6) ∧ (1 ≤ h ∧ h ≤ 6) := by
  unfold sizeOk
  simp only [Bool.and_eq_true, decide_eq_true_eq]
  omega

/-! ### every call leaves a good film -/
theorem good_step {s : Ie12.St} (g : GoodS s) (c : Call) : GoodS (Ie12.step s c).1 := by
  have gf := g.film
  cases c with
  | page w h =>
    show GoodS (if sizeOk w h = false then (s, [-1]) else ((⟨⟨w, h, [⟨blank w h, 1⟩], 0⟩, []⟩ : Ie12.St), ([1, 1] : List Int))).1
    split
    · exact g
    · rename_i hs
      have hs := sizeOk_iff.mp (by simpa using hs)
      refine ⟨⟨hs.1.1, hs.1.2, hs.2.1, hs.2.2, by dsimp only; omega, by dsimp only; simp, by dsimp only; simp, fun x hx => ?_, by dsimp only; rw [tks_cons, tks_nil]; dsimp only; omega⟩, by dsimp only; simp, fun f hf => by cases hf⟩
      have e : x = ⟨blank w h, 1⟩ := by simpa using hx
      rw [e]
      exact ⟨blank_len w h, blank_col w h, Nat.le_refl _⟩
  | put i =>
    show GoodS (match s.film.frames[i]? with
      | none => (s, ([-2] : List Int))
      | some x => if FRAMES ≤ s.film.frames.length then (s, [-5]) else if TICKS < s.film.long + x.ticks then (s, [-6]) else become s { s.film with frames := s.film.frames.take (i + 1) ++ x :: s.film.frames.drop (i + 1) }).1
    cases e : s.film.frames[i]? with
    | none => exact g
    | some x =>
      dsimp only
      split
      · exact g
      · split
        · exact g
        · rename_i h1 h2
          have hx := gf.fr x (List.mem_of_getElem? e)
          refine good_become g ⟨gf.w1, gf.w6, gf.h1, gf.h6, gf.lp, ?_, ?_, fun y hy => ?_, ?_⟩
          · dsimp only; simp; omega
          · dsimp only
            have : FRAMES = 12 := rfl
            rw [List.length_append, List.length_cons, List.length_take, List.length_drop]
            have := (List.getElem?_eq_some_iff.mp e).1
            omega
          · dsimp only at hy
            rcases List.mem_append.mp hy with m | m
            · exact gf.fr y (List.mem_of_mem_take m)
            · rcases List.mem_cons.mp m with e2 | m
              · rw [e2]; exact hx
              · exact gf.fr y (List.mem_of_mem_drop m)
          · dsimp only
            rw [tks_doubled e]
            rw [long_eq] at h2
            have : TICKS = 1000 := rfl
            omega
  | drop i =>
    show GoodS (if s.film.frames.length ≤ i then (s, ([-2] : List Int)) else if s.film.frames.length = 1 then (s, [-5]) else become s { s.film with frames := s.film.frames.eraseIdx i }).1
    split
    · exact g
    · split
      · exact g
      · rename_i h1 h2
        have hl : (s.film.frames.eraseIdx i).length = s.film.frames.length - 1 := List.length_eraseIdx_of_lt (by omega)
        have n1 := gf.n1
        have n12 := gf.n12
        have lg := gf.lg
        have := tks_erase_le s.film.frames i
        exact good_become g ⟨gf.w1, gf.w6, gf.h1, gf.h6, gf.lp, by dsimp only; omega, by dsimp only; omega, fun y hy => gf.fr y (List.mem_of_mem_eraseIdx hy), by dsimp only; omega⟩
  | box i x y u v n =>
    show GoodS (match s.film.frames[i]? with
      | none => (s, ([-2] : List Int))
      | some f => if 255 < n then (s, [-3]) else become s { s.film with frames := s.film.frames.set i ⟨f.cells.zipIdx.map (fun (q : Nat × Nat) => if inBox s.film.w x y u v q.2 then n else q.1), f.ticks⟩ }).1
    cases e : s.film.frames[i]? with
    | none => exact g
    | some f =>
      dsimp only
      split
      · exact g
      · rename_i h1
        have hf := gf.fr f (List.mem_of_getElem? e)
        refine good_become g ⟨gf.w1, gf.w6, gf.h1, gf.h6, gf.lp, by dsimp only; rw [List.length_set]; exact gf.n1, by dsimp only; rw [List.length_set]; exact gf.n12, fun z hz => ?_, ?_⟩
        · dsimp only at hz ⊢
          rcases List.mem_or_eq_of_mem_set hz with m | m
          · exact gf.fr z m
          · rw [m]
            refine ⟨?_, fun c hc => ?_, hf.tk⟩
            · dsimp only; rw [List.length_map, List.length_zipIdx]; exact hf.len
            · dsimp only at hc
              obtain ⟨q, hq, rfl⟩ := List.mem_map.mp hc
              split
              · omega
              · have := List.mem_zipIdx (x := q.1) (i := q.2) hq
                exact hf.col q.1 (by rw [this.2.2]; exact List.getElem_mem _)
        · dsimp only
          have := tks_set (y := ⟨f.cells.zipIdx.map (fun (q : Nat × Nat) => if inBox s.film.w x y u v q.2 then n else q.1), f.ticks⟩) e
          dsimp only at this
          have := gf.lg
          omega
  | ticks i n =>
    show GoodS (match s.film.frames[i]? with
      | none => (s, ([-2] : List Int))
      | some f => if n < 1 then (s, [-3]) else if TICKS < s.film.long - f.ticks + n then (s, [-6]) else become s { s.film with frames := s.film.frames.set i ⟨f.cells, n⟩ }).1
    cases e : s.film.frames[i]? with
    | none => exact g
    | some f =>
      dsimp only
      split
      · exact g
      · split
        · exact g
        · rename_i h1 h2
          have hf := gf.fr f (List.mem_of_getElem? e)
          refine good_become g ⟨gf.w1, gf.w6, gf.h1, gf.h6, gf.lp, by dsimp only; rw [List.length_set]; exact gf.n1, by dsimp only; rw [List.length_set]; exact gf.n12, fun z hz => ?_, ?_⟩
          · dsimp only at hz ⊢
            rcases List.mem_or_eq_of_mem_set hz with m | m
            · exact gf.fr z m
            · rw [m]; exact ⟨hf.len, hf.col, by dsimp only; omega⟩
          · dsimp only
            have := tks_set (y := ⟨f.cells, n⟩) e
            dsimp only at this
            rw [long_eq] at h2
            have : TICKS = 1000 := rfl
            omega
  | loop k =>
    show GoodS (if 2 < k then (s, ([-3] : List Int)) else become s { s.film with loop := k }).1
    split
    · exact g
    · exact good_become g ⟨gf.w1, gf.w6, gf.h1, gf.h6, by dsimp only; omega, gf.n1, gf.n12, gf.fr, gf.lg⟩
  | turn =>
    exact good_become g ⟨gf.w1, gf.w6, gf.h1, gf.h6, gf.lp, by dsimp only; rw [List.length_reverse]; exact gf.n1, by dsimp only; rw [List.length_reverse]; exact gf.n12, fun x hx => gf.fr x (List.mem_reverse.mp hx), by dsimp only; rw [tks_reverse]; exact gf.lg⟩
  | together =>
    refine good_become g ⟨gf.w1, gf.w6, gf.h1, gf.h6, gf.lp, ?_, Nat.le_trans (together_len _) gf.n12, together_good _ gf.fr, by dsimp only; rw [together_tks]; exact gf.lg⟩
    dsimp only
    have n1 := gf.n1
    cases e : s.film.frames with
    | nil => rw [e] at n1; simp at n1
    | cons a l =>
      cases e2 : Ie12.together (a :: l) with
      | nil => exact absurd e2 (together_ne a l)
      | cons b r => simp
  | stretch a n =>
    show GoodS (if n < 1 ∨ s.film.long < a + n then (s, ([-3] : List Int)) else become s { s.film with frames := Ie12.stretch s.film.frames a n }).1
    split
    · exact g
    · rename_i h
      rw [long_eq] at h
      exact good_become g (stretch_good gf (by omega) (by omega))
  | bring m =>
    show GoodS (if m < 1 ∨ TICKS < m then (s, ([-3] : List Int)) else (match brought s.film m with
      | none => (s, [-6])
      | some l => become s { s.film with frames := l })).1
    split
    · exact g
    · rename_i h
      have : TICKS = 1000 := rfl
      cases e : brought s.film m with
      | none => exact g
      | some l => exact good_become g (brought_good gf (by omega) e)
  | read w h l =>
    show GoodS (if sizeOk w h = false then (s, ([-1] : List Int)) else (match changesOf w h (l.length + 1) l with
      | none => (s, [-3])
      | some c => if c.isEmpty = true ∨ FRAMES < c.length ∨ TICKS < Ie12.sum (c.map fun x => x.1) then (s, [-5]) else become s ⟨w, h, framesOf w (blank w h) c, s.film.loop⟩)).1
    split
    · exact g
    · rename_i hs
      have hs := sizeOk_iff.mp (by simpa using hs)
      cases e : changesOf w h (l.length + 1) l with
      | none => exact g
      | some c =>
        dsimp only
        split
        · exact g
        · rename_i h2
          rw [sum_eq] at h2
          have e1 : TICKS = 1000 := rfl
          have e2 : FRAMES = 12 := rfl
          have hc : c ≠ [] := fun z => h2 (Or.inl (by rw [z]; rfl))
          have hc1 : 1 ≤ c.length := by cases c with
            | nil => exact absurd rfl hc
            | cons _ _ => simp
          refine good_become g ⟨hs.1.1, hs.1.2, hs.2.1, hs.2.2, gf.lp, ?_, ?_, framesOf_good c _ (blank_len w h) (blank_col w h) (changesOf_good w h _ _ _ e), ?_⟩
          · dsimp only; rw [framesOf_len]; exact hc1
          · dsimp only; rw [framesOf_len]; omega
          · dsimp only; rw [framesOf_tks]; omega
  | undo =>
    show GoodS (match s.old with
      | [] => (s, ([-4] : List Int))
      | f :: l => ((⟨f, l⟩ : Ie12.St), Ie12.ints [f.frames.length, f.long])).1
    cases e : s.old with
    | nil => exact g
    | cons f l =>
      have h1 := g.old
      have h2 := g.few
      rw [e] at h1 h2
      exact ⟨h1 f (List.mem_cons_self ..), by dsimp only; rw [List.length_cons] at h2; omega, fun x hx => h1 x (List.mem_cons_of_mem _ hx)⟩
  | shown t => exact g
  | between t => exact g
  | place t => exact g
  | told => exact g
  | list => exact g
end FF

set_option Elab.async false
set_option linter.all false
set_option maxRecDepth 100000
namespace FF
open Ie12

/-! ### brought, frame by frame -/
theorem near_zero {n : Nat} (h : 1 ≤ n) : near 0 n = 0 := by
  unfold near
  exact Nat.div_eq_of_lt (by omega)
theorem near_mono {a b n : Nat} (h : a ≤ b) : near a n ≤ near b n := by
  unfold near
  exact Nat.div_le_div_right (by omega)
def brl (n m : Nat) (l : List Frame) (t p : Nat) : List Frame := (l.zip (gaps n m l t p)).map fun q => (⟨q.1.cells, q.2⟩ : Frame)
theorem brl_nil (n m t p : Nat) : brl n m [] t p = [] := rfl
theorem brl_cons (n m : Nat) (x : Frame) (l : List Frame) (t p : Nat) : brl n m (x :: l) t p = ⟨x.cells, near ((t + x.ticks) * m) n - p⟩ :: brl n m l (t + x.ticks) (near ((t + x.ticks) * m) n) := rfl
theorem brl_snoc (n m : Nat) (x : Frame) : ∀ (l : List Frame) (t : Nat), brl n m (l ++ [x]) t (near (t * m) n) = brl n m l t (near (t * m) n) ++ [⟨x.cells, near ((t + tks l + x.ticks) * m) n - near ((t + tks l) * m) n⟩]
  | [], t => by
    rw [List.nil_append, brl_cons, brl_nil, brl_nil, tks_nil, Nat.add_zero]
    rfl
  | y :: l, t => by
    rw [List.cons_append, brl_cons, brl_cons, brl_snoc n m x l (t + y.ticks), tks_cons, ← Nat.add_assoc]
    rfl
theorem brl_len (n m : Nat) (l : List Frame) (t p : Nat) : (brl n m l t p).length = l.length := by
  unfold brl
  rw [List.length_map, List.length_zip, gaps_len]; omega
theorem all_any0 : ∀ (l : List Frame) (k : List Nat), k.length = l.length → (k.all fun n => decide (0 < n)) = !(((l.zip k).map fun q => (⟨q.1.cells, q.2⟩ : Frame)).any fun x => decide (x.ticks = 0))
  | [], [], _ => rfl
  | [], _ :: _, h => by simp at h
  | _ :: _, [], h => by simp at h
  | x :: l, a :: k, h => by
    have ih := all_any0 l k (by simpa using h)
    rw [List.zip_cons_cons, List.map_cons, List.all_cons, List.any_cons, ih, Bool.not_or]
    congr 1
    by_cases h0 : a = 0
    · subst h0; rfl
    · have : 0 < a := by omega
      simp [h0, this]
theorem brought_brl (f : Film) (m : Nat) : brought f m = if ((brl f.long m f.frames 0 0).any fun x => decide (x.ticks = 0)) = true then none else some (brl f.long m f.frames 0 0) := by
  rw [brought_eq, all_any0 f.frames _ (gaps_len ..)]
  show (if (!((brl f.long m f.frames 0 0).any fun x => decide (x.ticks = 0))) = true then some (brl f.long m f.frames 0 0) else none) = _
  cases ((brl f.long m f.frames 0 0).any fun x => decide (x.ticks = 0)) <;> rfl

/-! ### a tick's home, its place -/
def ownT (t n g : Nat) : Nat := if g = 1 then t % n else if g = 2 then min (t % (2 * n)) (2 * n - 1 - t % (2 * n)) else min t (n - 1)
theorem home_eq {f : Film} (t : Nat) (g : GoodF f) : f.home t = ownT t (tks f.frames) f.loop := by
  have h1 := g.long1
  have h2 := g.lp
  obtain ⟨w, h, fs, lp⟩ := f
  have e : (Film.mk w h fs lp).long = tks fs := long_eq _
  unfold Film.home
  rw [e]
  dsimp only at h1 h2 ⊢
  unfold ownT
  match lp, h2 with
  | 0, _ => rfl
  | 1, _ => rfl
  | 2, _ =>
    show (if t % (2 * tks fs) < tks fs then t % (2 * tks fs) else 2 * tks fs - 1 - t % (2 * tks fs)) = min (t % (2 * tks fs)) (2 * tks fs - 1 - t % (2 * tks fs))
    have := Nat.mod_lt t (show 0 < 2 * tks fs by omega)
    generalize t % (2 * tks fs) = k at *
    split <;> omega
theorem ownT_lt {t n g : Nat} (h : 1 ≤ n) : ownT t n g < n := by
  unfold ownT
  split
  · exact Nat.mod_lt _ (by omega)
  · split
    · have := Nat.mod_lt t (show 0 < 2 * n by omega)
      omega
    · omega
theorem placeIn_stop {x : Frame} {l : List Frame} {i t : Nat} (h : t < x.ticks) : placeIn (x :: l) i t = (i, t) := by
  cases l with
  | nil => rfl
  | cons y r => unfold placeIn; rw [if_pos h]
theorem placeIn_go {x : Frame} {l : List Frame} {i t : Nat} (h : x.ticks ≤ t) (ht : t < tks (x :: l)) : placeIn (x :: l) i t = placeIn l (i + 1) (t - x.ticks) := by
  cases l with
  | nil => rw [tks_cons, tks_nil] at ht; omega
  | cons y r =>
    show (if t < x.ticks then (i, t) else placeIn (y :: r) (i + 1) (t - x.ticks)) = _
    rw [if_neg (by omega)]
theorem placeIn_ok : ∀ (l : List Frame) (i t : Nat), t < tks l → ∃ j x, (placeIn l i t).1 = i + j ∧ l[j]? = some x ∧ (placeIn l i t).2 < x.ticks
  | [], i, t, h => by rw [tks_nil] at h; omega
  | x :: l, i, t, h => by
    by_cases h1 : t < x.ticks
    · rw [placeIn_stop h1]
      exact ⟨0, x, rfl, rfl, h1⟩
    · rw [placeIn_go (by omega) h]
      rw [tks_cons] at h
      obtain ⟨j, y, a, b, c⟩ := placeIn_ok l (i + 1) (t - x.ticks) (by omega)
      exact ⟨j + 1, y, by rw [a]; omega, by rw [List.getElem?_cons_succ]; exact b, c⟩

/-! ### the least, the greatest -/
theorem foldl_min : ∀ (r : List Nat) (a : Nat), (r.foldl min a = a ∨ r.foldl min a ∈ r) ∧ r.foldl min a ≤ a ∧ ∀ y ∈ r, r.foldl min a ≤ y
  | [], a => ⟨.inl rfl, Nat.le_refl _, fun y hy => by cases hy⟩
  | b :: r, a => by
    obtain ⟨h1, h2, h3⟩ := foldl_min r (min a b)
    rw [List.foldl_cons]
    refine ⟨?_, by omega, fun y hy => ?_⟩
    · rcases h1 with h1 | h1
      · rw [h1]
        by_cases h : a ≤ b
        · exact .inl (by omega)
        · exact .inr (by rw [show min a b = b by omega]; exact List.mem_cons_self ..)
      · exact .inr (List.mem_cons_of_mem _ h1)
    · rcases List.mem_cons.mp hy with e | m
      · rw [e]; omega
      · exact h3 y m
theorem least_mem {l : List Nat} (h : l ≠ []) : leastOf l ∈ l ∧ ∀ y ∈ l, leastOf l ≤ y := by
  cases l with
  | nil => exact absurd rfl h
  | cons a r =>
    obtain ⟨h1, h2, h3⟩ := foldl_min r a
    show r.foldl min a ∈ a :: r ∧ ∀ y ∈ a :: r, r.foldl min a ≤ y
    refine ⟨?_, fun y hy => ?_⟩
    · rcases h1 with h1 | h1
      · rw [h1]; exact List.mem_cons_self ..
      · exact List.mem_cons_of_mem _ h1
    · rcases List.mem_cons.mp hy with e | m
      · rw [e]; exact h2
      · exact h3 y m
theorem foldl_max : ∀ (r : List Nat) (a : Nat), (r.foldl max a = a ∨ r.foldl max a ∈ r) ∧ a ≤ r.foldl max a ∧ ∀ y ∈ r, y ≤ r.foldl max a
  | [], a => ⟨.inl rfl, Nat.le_refl _, fun y hy => by cases hy⟩
  | b :: r, a => by
    obtain ⟨h1, h2, h3⟩ := foldl_max r (max a b)
    rw [List.foldl_cons]
    refine ⟨?_, by omega, fun y hy => ?_⟩
    · rcases h1 with h1 | h1
      · rw [h1]
        by_cases h : b ≤ a
        · exact .inl (by omega)
        · exact .inr (by rw [show max a b = b by omega]; exact List.mem_cons_self ..)
      · exact .inr (List.mem_cons_of_mem _ h1)
    · rcases List.mem_cons.mp hy with e | m
      · rw [e]; omega
      · exact h3 y m
theorem most_mem {l : List Nat} (h : l ≠ []) : l.foldl max 0 ∈ l ∧ ∀ y ∈ l, y ≤ l.foldl max 0 := by
  obtain ⟨h1, h2, h3⟩ := foldl_max l 0
  refine ⟨?_, h3⟩
  rcases h1 with h1 | h1
  · cases l with
    | nil => exact absurd rfl h
    | cons a r =>
      have h4 := h3 a (List.mem_cons_self ..)
      have : a = 0 := by omega
      rw [h1, this]; exact List.mem_cons_self ..
  · exact h1

/-! ### the cells of a box -/
def inB (x y u v c r : Nat) : Bool := (decide (x ≤ c) && decide (c < x + u)) && (decide (y ≤ r) && decide (r < y + v))
theorem inB_iff {x y u v c r : Nat} : inB x y u v c r = true ↔ (x ≤ c ∧ c < x + u) ∧ (y ≤ r ∧ r < y + v) := by
  unfold inB
  rw [Bool.and_eq_true, Bool.and_eq_true, Bool.and_eq_true, decide_eq_true_eq, decide_eq_true_eq, decide_eq_true_eq, decide_eq_true_eq]
theorem range_add (a b : Nat) : List.range (a + b) = List.range a ++ (List.range b).map (a + ·) := List.range_add
theorem range_mul (w : Nat) : ∀ h : Nat, List.range (w * h) = (List.range h).flatMap fun j => (List.range w).map fun i => j * w + i
  | 0 => rfl
  | h + 1 => by
    rw [Nat.mul_succ, range_add, range_mul w h, List.range_succ, List.flatMap_append, List.flatMap_singleton, Nat.mul_comm w h]
theorem range_part (x u n : Nat) (h : x + u ≤ n) : (List.range n).filter (fun i => decide (x ≤ i) && decide (i < x + u)) = (List.range u).map (x + ·) := by
  obtain ⟨k, rfl⟩ : ∃ k, n = x + u + k := ⟨n - (x + u), by omega⟩
  rw [range_add (x + u) k, range_add x u, List.filter_append, List.filter_append]
  have e1 : (List.range x).filter (fun i => decide (x ≤ i) && decide (i < x + u)) = [] := by
    rw [List.filter_eq_nil_iff]
    intro i hi
    have := List.mem_range.mp hi
    simp; omega
  have e2 : ((List.range u).map (x + ·)).filter (fun i => decide (x ≤ i) && decide (i < x + u)) = (List.range u).map (x + ·) := by
    rw [List.filter_eq_self]
    intro i hi
    obtain ⟨j, hj, rfl⟩ := List.mem_map.mp hi
    have := List.mem_range.mp hj
    simp; omega
  have e3 : ((List.range k).map (x + u + ·)).filter (fun i => decide (x ≤ i) && decide (i < x + u)) = [] := by
    rw [List.filter_eq_nil_iff]
    intro i hi
    obtain ⟨j, hj, rfl⟩ := List.mem_map.mp hi
    simp
  rw [e1, e2, e3, List.nil_append, List.append_nil]
theorem flatMap_if {α : Type} (p : Nat → Bool) (g : Nat → List α) : ∀ l : List Nat, (l.flatMap fun j => if p j = true then g j else []) = (l.filter p).flatMap g
  | [] => rfl
  | j :: l => by
    rw [List.flatMap_cons, List.filter_cons, flatMap_if p g l]
    split
    · rw [List.flatMap_cons]
    · rw [List.nil_append]
theorem box_cells {w h x y u v : Nat} (hx : x + u ≤ w) (hy : y + v ≤ h) : (List.range (w * h)).filter (fun c => inB x y u v (c % w) (c / w)) = (List.range v).flatMap fun j => (List.range u).map fun i => (y + j) * w + (x + i) := by
  rw [range_mul, List.filter_flatMap]
  have e : ∀ j, ((List.range w).map fun i => j * w + i).filter (fun c => inB x y u v (c % w) (c / w)) = if (decide (y ≤ j) && decide (j < y + v)) = true then (List.range u).map (fun i => j * w + (x + i)) else [] := by
    intro j
    rw [List.filter_map]
    have e1 : (List.range w).filter ((fun c => inB x y u v (c % w) (c / w)) ∘ fun i => j * w + i) = (List.range w).filter (fun i => (decide (x ≤ i) && decide (i < x + u)) && (decide (y ≤ j) && decide (j < y + v))) := by
      apply List.filter_congr
      intro i hi
      have hi := List.mem_range.mp hi
      have a1 : (j * w + i) % w = i := by rw [Nat.add_comm, Nat.add_mul_mod_self_right]; exact Nat.mod_eq_of_lt hi
      have a2 : (j * w + i) / w = j := by rw [Nat.add_comm, Nat.add_mul_div_right _ _ (by omega), Nat.div_eq_of_lt hi, Nat.zero_add]
      show inB x y u v ((j * w + i) % w) ((j * w + i) / w) = _
      rw [a1, a2]
      rfl
    rw [e1]
    cases hb : (decide (y ≤ j) && decide (j < y + v)) with
    | false =>
      rw [if_neg (by decide)]
      have : (List.range w).filter (fun i => (decide (x ≤ i) && decide (i < x + u)) && false) = [] := by
        rw [List.filter_eq_nil_iff]; intro i _; simp
      rw [this]; rfl
    | true =>
      rw [if_pos rfl]
      have : (List.range w).filter (fun i => (decide (x ≤ i) && decide (i < x + u)) && true) = (List.range u).map (x + ·) := by
        rw [← range_part x u w hx]
        apply List.filter_congr
        intro i _
        exact Bool.and_true _
      rw [this, List.map_map]
      rfl
  have e2 : (fun a => List.filter (fun c => inB x y u v (c % w) (c / w)) ((List.range w).map fun i => a * w + i)) = fun j => if (decide (y ≤ j) && decide (j < y + v)) = true then (List.range u).map (fun i => j * w + (x + i)) else [] := funext e
  rw [e2, flatMap_if (fun j => decide (y ≤ j) && decide (j < y + v)) (fun j => (List.range u).map (fun i => j * w + (x + i))), range_part y v h hy, List.flatMap_map]

/-! ### what changed -/
def diffs (w h : Nat) (a b : List Nat) : List Nat := (List.range (w * h)).filter (differ a b)
theorem change_none {w h : Nat} {a b : List Nat} (e : diffs w h a b = []) : change w h a b = ⟨0, 0, 0, 0, []⟩ := by
  unfold change
  dsimp only
  rw [show (List.range (w * h)).filter (differ a b) = [] from e]
  rfl
theorem change_some {w h : Nat} {a b : List Nat} (e : diffs w h a b ≠ []) :
    (change w h a b).x = leastOf ((diffs w h a b).map fun i => i % w) ∧ (change w h a b).y = leastOf ((diffs w h a b).map fun i => i / w) ∧
    (change w h a b).u = ((diffs w h a b).map fun i => i % w).foldl max 0 + 1 - (change w h a b).x ∧ (change w h a b).v = ((diffs w h a b).map fun i => i / w).foldl max 0 + 1 - (change w h a b).y ∧
    (change w h a b).cells = (List.range (change w h a b).v).flatMap fun j => (List.range (change w h a b).u).map fun i => b.getD (((change w h a b).y + j) * w + ((change w h a b).x + i)) 0 := by
  have h0 : (diffs w h a b).isEmpty = false := by
    cases q : diffs w h a b with
    | nil => exact absurd q e
    | cons _ _ => rfl
  have h1 : change w h a b = (let d := diffs w h a b
    let xs := d.map fun i => i % w
    let ys := d.map fun i => i / w
    let x := leastOf xs
    let y := leastOf ys
    let u := xs.foldl max 0 + 1 - x
    let v := ys.foldl max 0 + 1 - y
    ⟨x, y, u, v, (List.range v).flatMap fun j => (List.range u).map fun i => b.getD ((y + j) * w + (x + i)) 0⟩) := by
    unfold change
    dsimp only
    rw [show (List.range (w * h)).filter (differ a b) = diffs w h a b from rfl, h0]
    rfl
  rw [h1]
  exact ⟨rfl, rfl, rfl, rfl, rfl⟩
theorem change_in {w h : Nat} {a b : List Nat} (hw : 1 ≤ w) : (change w h a b).x + (change w h a b).u ≤ w ∧ (change w h a b).y + (change w h a b).v ≤ h := by
  by_cases e : diffs w h a b = []
  · rw [change_none e]
    exact ⟨by dsimp only; omega, by dsimp only; omega⟩
  · obtain ⟨h1, h2, h3, h4, _⟩ := change_some e
    have hx : (diffs w h a b).map (fun i => i % w) ≠ [] := fun z => e (List.map_eq_nil_iff.mp z)
    have hy : (diffs w h a b).map (fun i => i / w) ≠ [] := fun z => e (List.map_eq_nil_iff.mp z)
    obtain ⟨m1, m2⟩ := most_mem hx
    obtain ⟨n1, n2⟩ := most_mem hy
    have l1 := (least_mem hx).2 _ m1
    have l2 := (least_mem hy).2 _ n1
    obtain ⟨i, hi, ei⟩ := List.mem_map.mp m1
    obtain ⟨j, hj, ej⟩ := List.mem_map.mp n1
    have b1 : i % w < w := Nat.mod_lt _ (by omega)
    have b2 : j / w < h := by
      have := List.mem_range.mp (List.mem_filter.mp hj).1
      exact Nat.div_lt_of_lt_mul this
    rw [ei] at b1
    rw [ej] at b2
    constructor <;> omega
theorem change_cells {w h : Nat} {a b : List Nat} (hw : 1 ≤ w) : (change w h a b).cells = ((List.range (w * h)).filter (fun c => inB (change w h a b).x (change w h a b).y (change w h a b).u (change w h a b).v (c % w) (c / w))).map fun c => b.getD c 0 := by
  obtain ⟨h1, h2⟩ := change_in (w := w) (h := h) (a := a) (b := b) hw
  rw [box_cells h1 h2, List.map_flatMap]
  by_cases e : diffs w h a b = []
  · rw [change_none e]; rfl
  · rw [(change_some e).2.2.2.2]
    congr 1
    funext j
    rw [List.map_map]
    rfl
theorem changes_append (w h : Nat) : ∀ (l : List Frame) (a : List Nat) (x : Frame), changes w h a (l ++ [x]) = changes w h a l ++ [(x.ticks, change w h ((l.getLast?.map fun f => f.cells).getD a) x.cells)]
  | [], a, x => rfl
  | y :: l, a, x => by
    show (y.ticks, change w h a y.cells) :: changes w h y.cells (l ++ [x]) = _
    rw [changes_append w h l y.cells x]
    show _ = (y.ticks, change w h a y.cells) :: (changes w h y.cells l ++ _)
    congr 3
    cases l with
    | nil => rfl
    | cons z r =>
      rw [List.getLast?_cons_cons]
      cases q : (z :: r).getLast? with
      | none => simp at q
      | some c => rfl

/-! ### a box put on a picture, number by number -/
def pst (w x y u v : Nat) (cs a : List Nat) (k : Nat) : List Nat := (List.range a.length).map fun p => if inB x y u v (p % w) (p / w) = true ∧ (p / w - y) * u + (p % w - x) < k then cs.getD ((p / w - y) * u + (p % w - x)) 0 else a.getD p 0
theorem range_getD (a : List Nat) : (List.range a.length).map (fun p => a.getD p 0) = a := by
  apply List.ext_getElem?
  intro i
  rw [List.getElem?_map]
  by_cases h : i < a.length
  · rw [List.getElem?_range h, List.getElem?_eq_getElem h]
    show some (a.getD i 0) = some _
    rw [List.getD_eq_getElem?_getD, List.getElem?_eq_getElem h]
    rfl
  · rw [List.getElem?_eq_none (by rw [List.length_range]; omega), List.getElem?_eq_none (by omega)]
    rfl
theorem pst_zero (w x y u v : Nat) (cs a : List Nat) : pst w x y u v cs a 0 = a := by
  have : pst w x y u v cs a 0 = (List.range a.length).map (fun p => a.getD p 0) := by
    unfold pst
    apply List.map_congr_left
    intro p _
    rw [if_neg (by omega)]
  rw [this, range_getD]
theorem pst_len (w x y u v : Nat) (cs a : List Nat) (k : Nat) : (pst w x y u v cs a k).length = a.length := by
  unfold pst
  rw [List.length_map, List.length_range]
theorem idx_lt {a u b v : Nat} (h1 : b < u) (h2 : a < v) : a * u + b < u * v := by
  have : (a + 1) * u ≤ v * u := Nat.mul_le_mul_right _ (by omega)
  rw [Nat.mul_comm u v]
  rw [Nat.succ_mul] at this
  omega
theorem pst_all {w x y u v : Nat} {cs a : List Nat} : pst w x y u v cs a (u * v) = changed w a ⟨x, y, u, v, cs⟩ := by
  apply List.ext_getElem?
  intro i
  unfold pst changed
  rw [List.getElem?_map, List.getElem?_map, List.getElem?_zipIdx]
  by_cases h : i < a.length
  · rw [List.getElem?_range h, List.getElem?_eq_getElem h]
    show some _ = some _
    dsimp only
    rw [Nat.zero_add]
    congr 1
    by_cases hb : inB x y u v (i % w) (i / w) = true
    · have hb2 := inB_iff.mp hb
      rw [if_pos ⟨hb, idx_lt (by omega) (by omega)⟩, if_pos ⟨hb2.1.1, hb2.1.2, hb2.2.1, hb2.2.2⟩]
    · rw [if_neg (fun z => hb z.1), if_neg (fun z => hb (inB_iff.mpr ⟨⟨z.1, z.2.1⟩, z.2.2⟩)), List.getD_eq_getElem?_getD, List.getElem?_eq_getElem h]
      rfl
  · rw [List.getElem?_eq_none (by rw [List.length_range]; omega), List.getElem?_eq_none (by omega)]
    rfl
theorem spot {w h x y u v k : Nat} (hx : x + u ≤ w) (hy : y + v ≤ h) (hk : k < u * v) : (y + k / u) * w + (x + k % u) < w * h ∧ ((y + k / u) * w + (x + k % u)) % w = x + k % u ∧ ((y + k / u) * w + (x + k % u)) / w = y + k / u ∧ k % u < u ∧ k / u < v := by
  have hu : 0 < u := by
    cases u with
    | zero => rw [Nat.zero_mul] at hk; omega
    | succ n => omega
  have h1 : k % u < u := Nat.mod_lt _ hu
  have h2 : k / u < v := Nat.div_lt_of_lt_mul hk
  have h3 : x + k % u < w := by omega
  refine ⟨?_, ?_, ?_, h1, h2⟩
  · have := idx_lt (a := y + k / u) (u := w) (b := x + k % u) (v := h) h3 (by omega)
    exact this
  · rw [Nat.add_comm, Nat.add_mul_mod_self_right]; exact Nat.mod_eq_of_lt h3
  · rw [Nat.add_comm, Nat.add_mul_div_right _ _ (by omega), Nat.div_eq_of_lt h3, Nat.zero_add]
theorem pst_step {w h x y u v k : Nat} {cs a : List Nat} (ha : a.length = w * h) (hx : x + u ≤ w) (hy : y + v ≤ h) (hk : k < u * v) : (pst w x y u v cs a k).set ((y + k / u) * w + (x + k % u)) (cs.getD k 0) = pst w x y u v cs a (k + 1) := by
  obtain ⟨s1, s2, s3, s4, s5⟩ := spot hx hy hk
  have dm := Nat.div_add_mod k u
  rw [Nat.mul_comm] at dm
  apply List.ext_getElem?
  intro i
  rw [List.getElem?_set]
  have hl := pst_len w x y u v cs a k
  by_cases hi : (y + k / u) * w + (x + k % u) = i
  · rw [if_pos hi, if_pos (by rw [hl, ha]; omega)]
    unfold pst
    rw [List.getElem?_map, List.getElem?_range (by rw [ha]; omega)]
    show some _ = some _
    rw [← hi]
    congr 1
    have hb : inB x y u v (((y + k / u) * w + (x + k % u)) % w) (((y + k / u) * w + (x + k % u)) / w) = true := by
      rw [s2, s3]
      exact inB_iff.mpr ⟨⟨Nat.le_add_right _ _, Nat.add_lt_add_left s4 _⟩, Nat.le_add_right _ _, Nat.add_lt_add_left s5 _⟩
    dsimp only
    rw [s2, s3] at hb ⊢
    have e1 : (y + k / u - y) * u + (x + k % u - x) = k := by
      rw [Nat.add_sub_cancel_left, Nat.add_sub_cancel_left]; exact dm
    rw [e1, if_pos ⟨hb, by omega⟩]
  · rw [if_neg hi]
    unfold pst
    rw [List.getElem?_map, List.getElem?_map]
    by_cases h2 : i < a.length
    · rw [List.getElem?_range h2]
      show some _ = some _
      congr 1
      dsimp only
      by_cases hb : inB x y u v (i % w) (i / w) = true
      · have hb2 := inB_iff.mp hb
        have ne : (i / w - y) * u + (i % w - x) ≠ k := fun e => hi (by
          have q1 : i % w - x < u := by omega
          have e1 : k % u = i % w - x := by
            rw [← e, Nat.add_comm, Nat.add_mul_mod_self_right]; exact Nat.mod_eq_of_lt q1
          have e2 : k / u = i / w - y := by
            rw [← e, Nat.add_comm, Nat.add_mul_div_right _ _ (by omega), Nat.div_eq_of_lt q1, Nat.zero_add]
          rw [e1, e2, show y + (i / w - y) = i / w by omega, show x + (i % w - x) = i % w by omega]
          have := Nat.div_add_mod i w
          rw [Nat.mul_comm] at this
          exact this)
        by_cases hc : (i / w - y) * u + (i % w - x) < k
        · rw [if_pos ⟨hb, hc⟩, if_pos ⟨hb, by omega⟩]
        · rw [if_neg (fun z => hc z.2), if_neg (fun z => by have := z.2; omega)]
      · rw [if_neg (fun z => hb z.1), if_neg (fun z => hb z.1)]
    · rw [List.getElem?_eq_none (by rw [List.length_range]; omega)]
      rfl

/-! ### a film read -/
def lastPic (w : Nat) (a : List Nat) (c : List (Nat × Change)) : List Nat := c.foldl (fun b x => changed w b x.2) a
theorem lastPic_snoc (w : Nat) (a : List Nat) (c : List (Nat × Change)) (x : Nat × Change) : lastPic w a (c ++ [x]) = changed w (lastPic w a c) x.2 := by
  unfold lastPic
  rw [List.foldl_append]
  rfl
theorem framesOf_snoc (w : Nat) : ∀ (c : List (Nat × Change)) (a : List Nat) (x : Nat × Change), framesOf w a (c ++ [x]) = framesOf w a c ++ [⟨changed w (lastPic w a c) x.2, x.1⟩]
  | [], a, x => rfl
  | y :: c, a, x => by
    show ⟨changed w a y.2, y.1⟩ :: framesOf w (changed w a y.2) (c ++ [x]) = _
    rw [framesOf_snoc w c]
    rfl
theorem lastPic_len (w : Nat) : ∀ (c : List (Nat × Change)) (a : List Nat), (lastPic w a c).length = a.length
  | [], a => rfl
  | y :: c, a => by
    show (lastPic w (changed w a y.2) c).length = a.length
    rw [lastPic_len w c, changed_len]
theorem co_short {w h k : Nat} {l : List Nat} (h0 : l ≠ []) (h5 : l.length < 5) : changesOf w h (k + 1) l = none := by
  match l, h0, h5 with
  | [], h, _ => exact absurd rfl h
  | [_], _, _ => rfl
  | [_, _], _, _ => rfl
  | [_, _, _], _, _ => rfl
  | [_, _, _, _], _, _ => rfl
  | _ :: _ :: _ :: _ :: _ :: _, _, h => simp at h; omega
theorem co_cons (w h k t x y u v : Nat) (l : List Nat) : changesOf w h (k + 1) (t :: x :: y :: u :: v :: l) = if t < 1 ∨ TICKS < t ∨ w < x + u ∨ h < y + v ∨ l.length < u * v ∨ (l.take (u * v)).any (fun n => decide (255 < n)) = true then none else (changesOf w h k (l.drop (u * v))).map fun r => (t, ⟨x, y, u, v, l.take (u * v)⟩) :: r := rfl
theorem five {α : Type} {l : List α} (h : 5 ≤ l.length) : ∃ t x y u v r, l = t :: x :: y :: u :: v :: r := by
  match l, h with
  | t :: x :: y :: u :: v :: r, _ => exact ⟨t, x, y, u, v, r, rfl⟩
  | [], h => simp at h
  | [_], h => simp at h
  | [_, _], h => simp at h
  | [_, _, _], h => simp at h
  | [_, _, _, _], h => simp at h
end FF

set_option Elab.async false
set_option linter.all false
set_option maxRecDepth 100000
set_option maxHeartbeats 2000000
namespace FF
open PySem PySem.Spec PyProof.Rows L2 Evl

/-! ### numbers as values -/
def nV (n : Nat) : V := .int (n : Int)
theorem nV_def (n : Nat) : nV n = .int (n : Int) := rfl

/-! ### frames in the heap; S: addresses that are none of theirs -/
def Pic (S : Addr → Prop) (H : Hp) (c : Addr) (cs : List Nat) : Prop := ¬ S c ∧ H c = some (.lst (cs.map nV))
def FrAt (S : Addr → Prop) (H : Hp) (t : Addr) (x : Ie12.Frame) : Prop := ¬ S t ∧ ∃ c, H t = some (.tup [nV x.ticks, .ref c]) ∧ Pic S H c x.cells
abbrev AF := Addr × Ie12.Frame
def rf {α : Type} (p : Addr × α) : V := .ref p.1
def FrsOf (S : Addr → Prop) (H : Hp) (ps : List AF) : Prop := ∀ p ∈ ps, FrAt S H p.1 p.2
def FrsAt (S : Addr → Prop) (H : Hp) (a : Addr) (fs : List Ie12.Frame) : Prop := ∃ ps : List AF, ps.map (·.2) = fs ∧ ¬ S a ∧ H a = some (.lst (ps.map rf)) ∧ FrsOf S H ps
/-- every address of S is known -/
def Kn (S : Addr → Prop) (H : Hp) : Prop := ∀ b, S b → H b ≠ none
theorem Kn.ne {S : Addr → Prop} {H : Hp} (k : Kn S H) {p : Addr} (h : H p = none) : ¬ S p := fun s => k p s h
theorem Kn.ex {S : Addr → Prop} {H H' : Hp} (k : Kn S H) (e : Ex H H') : Kn S H' := fun b s h => k b s (fresh_back e h)

section
variable {S S' : Addr → Prop} {H H' : Hp}
/-- S' has nothing new that was known; what is no S's stays -/
structure Goes (S S' : Addr → Prop) (H H' : Hp) : Prop where
  keep : ∀ b o, H b = some o → ¬ S b → H' b = some o
  less : ∀ b, S' b → S b ∨ H b = none
theorem Goes.ex (e : Ex H H') : Goes S S H H' := ⟨fun b o h _ => e b o h, fun _ s => .inl s⟩
theorem Pic.go (g : Goes S S' H H') {c : Addr} {cs : List Nat} (h : Pic S H c cs) : Pic S' H' c cs := by
  obtain ⟨h1, h2⟩ := h
  refine ⟨fun s => ?_, g.keep _ _ h2 h1⟩
  rcases g.less c s with z | z
  · exact h1 z
  · rw [z] at h2; cases h2
theorem FrAt.go (g : Goes S S' H H') {t : Addr} {x : Ie12.Frame} (h : FrAt S H t x) : FrAt S' H' t x := by
  obtain ⟨h1, c, h2, h3⟩ := h
  refine ⟨fun s => ?_, c, g.keep _ _ h2 h1, h3.go g⟩
  rcases g.less t s with z | z
  · exact h1 z
  · rw [z] at h2; cases h2
theorem FrsOf.go (g : Goes S S' H H') {ps : List AF} (h : FrsOf S H ps) : FrsOf S' H' ps := fun p hp => (h p hp).go g
theorem FrsAt.go (g : Goes S S' H H') {a : Addr} {fs : List Ie12.Frame} (h : FrsAt S H a fs) : FrsAt S' H' a fs := by
  obtain ⟨ps, e, h1, h2, h3⟩ := h
  refine ⟨ps, e, fun s => ?_, g.keep _ _ h2 h1, h3.go g⟩
  rcases g.less a s with z | z
  · exact h1 z
  · rw [z] at h2; cases h2
theorem FrsAt.ex (e : Ex H H') {a : Addr} {fs : List Ie12.Frame} (h : FrsAt S H a fs) : FrsAt S H' a fs := h.go (.ex e)
theorem FrsOf.ex (e : Ex H H') {ps : List AF} (h : FrsOf S H ps) : FrsOf S H' ps := h.go (.ex e)
theorem FrsOf.sub {ps qs : List AF} (h : FrsOf S H ps) (k : ∀ p ∈ qs, p ∈ ps) : FrsOf S H qs := fun p hp => h p (k p hp)
theorem FrsOf.append {ps qs : List AF} (h : FrsOf S H ps) (k : FrsOf S H qs) : FrsOf S H (ps ++ qs) := fun p hp => (List.mem_append.mp hp).elim (h p) (k p)
theorem FrsOf.take {ps : List AF} (h : FrsOf S H ps) (n : Nat) : FrsOf S H (ps.take n) := h.sub fun _ hp => List.mem_of_mem_take hp
theorem FrsOf.drop {ps : List AF} (h : FrsOf S H ps) (n : Nat) : FrsOf S H (ps.drop n) := h.sub fun _ hp => List.mem_of_mem_drop hp
theorem FrsOf.one {t : Addr} {x : Ie12.Frame} (h : FrAt S H t x) : FrsOf S H [(t, x)] := fun p hp => by
  have e : p = (t, x) := by simpa using hp
  rw [e]; exact h
end

/-! ### what a reading gives: frames -/
def EvF (S : Addr → Prop) (te : TE) (σ : L2.St) (H : Hp) (fs : List Ie12.Frame) : Prop := ∀ H1, Ex H H1 → ∀ Q : VK, (∀ p H2, H1 p = none → Ex H1 H2 → FrsAt S H2 p fs → Q (.ref p) H2) → te σ H1 Q
/-- a promise's end: frames made -/
def RetF (S : Addr → Prop) (fs : List Ie12.Frame) (H : Hp) (Q : VK) : Prop := ∀ p H2, H p = none → Ex H H2 → FrsAt S H2 p fs → Q (.ref p) H2
theorem RetF.go {S : Addr → Prop} {fs : List Ie12.Frame} {H H' : Hp} {Q : VK} (k : RetF S fs H Q) (e : Ex H H') {p : Addr} {H2 : Hp} (hp : H' p = none) (e2 : Ex H' H2) (h : FrsAt S H2 p fs) : Q (.ref p) H2 := k p H2 (fresh_back e hp) (e.trans e2) h

/-! ### slices -/
theorem cut_to (xs : List V) (k : Nat) : cutV xs none (some (k : Int)) = xs.take k := by
  unfold cutV
  rw [HT.sIx_none, HT.sIx_nat, List.drop_zero, Nat.sub_zero]
  by_cases h : k ≤ xs.length
  · rw [Nat.min_eq_left h]
  · rw [Nat.min_eq_right (by omega), List.take_of_length_le (Nat.le_refl _), List.take_of_length_le (by omega)]
theorem cut_from (xs : List V) (k : Nat) : cutV xs (some (k : Int)) none = xs.drop k := by
  unfold cutV
  rw [HT.sIx_none, HT.sIx_nat]
  by_cases h : k ≤ xs.length
  · rw [Nat.min_eq_left h, List.take_of_length_le (by rw [List.length_drop]; omega)]
  · rw [Nat.min_eq_right (by omega), List.drop_eq_nil_of_le (Nat.le_refl _), List.drop_eq_nil_of_le (by omega)]
    exact List.take_nil
theorem cut_mid (xs : List V) (j k : Nat) (h : j ≤ k) (hk : k ≤ xs.length) : cutV xs (some (j : Int)) (some (k : Int)) = (xs.drop j).take (k - j) := by
  unfold cutV
  rw [HT.sIx_nat, HT.sIx_nat, Nat.min_eq_left hk, Nat.min_eq_left (by omega)]
theorem cut_last (xs : List V) (k : Nat) : cutV xs (some (-(k : Int))) none = if k = 0 then xs else xs.drop (xs.length - k) := by
  unfold cutV
  rw [HT.sIx_none]
  by_cases h0 : k = 0
  · rw [if_pos h0]; subst h0
    show List.take (xs.length - HT.sIx xs.length 0 (some (((0 : Nat) : Int)))) (List.drop (HT.sIx xs.length 0 (some ((0 : Nat) : Int))) xs) = xs
    rw [HT.sIx_nat, Nat.zero_min, Nat.sub_zero, List.drop_zero, List.take_of_length_le (Nat.le_refl _)]
  · rw [if_neg h0]
    have e : HT.sIx xs.length 0 (some (-(k : Int))) = xs.length - k := by
      show (if -(k : Int) < 0 then (-(k : Int) + (xs.length : Int)).toNat else min (-(k : Int)).toNat xs.length) = _
      rw [if_pos (by omega)]; omega
    rw [e, List.take_of_length_le (by rw [List.length_drop]; omega)]

/-! ### evaluation: more words -/
section
variable {K : PySem.W.Frag} {σ : L2.St} {H H' : Hp} {ta tb te : TE} {t : TT} {x y z v : V} {r : R2}
theorem ev_fld {C a dx : Addr} {fs : List (Str × V)} {f : Str} (ha : Ev ta σ H (.ref a)) (h : H a = some (.ins C dx fs)) (c : Cls K C) (n : NoAttr K C f) (l : fs.lookup f = some v) : Ev (tFld K ta f) σ H v := fun H1 e _ q =>
  ha H1 e _ fun H2 e2 => ⟨a, C, dx, fs, v, rfl, (e.trans e2) a _ h, c, n, l, q H2 e2⟩
theorem ev_chain {r r' : R2} {tc : TE} {w' : V} {b c : Bool} (ha : Ev ta σ H x) (hb : Ev tb σ H y) (hr : RV r x y H (.bl b)) (hc : b = true → Ev tc σ H w' ∧ RV r' y w' H (.bl c)) : Ev (tChain r r' ta tb tc) σ H (.bl (b && c)) := fun H1 e Q q =>
  ha H1 e _ fun H2 e2 => hb H2 (e.trans e2) _ fun H3 e3 => hr H3 ((e.trans e2).trans e3) _ fun H4 e4 => ⟨b, rfl, by
    cases b with
    | false => exact q H4 ((e2.trans e3).trans e4)
    | true =>
      obtain ⟨h1, h2⟩ := hc rfl
      exact h1 H4 (((e.trans e2).trans e3).trans e4) _ fun H5 e5 => h2 H5 ((((e.trans e2).trans e3).trans e4).trans e5) Q fun H6 e6 => q H6 ((((e2.trans e3).trans e4).trans e5).trans e6)⟩
theorem el_is {xs ys : List V} (h : EvL te σ H xs) (e : xs = ys) : EvL te σ H ys := by
  rw [← e]
  exact h
theorem rv_addN {a b : Nat} : RV (rI0 fun i j => .int (i + j)) (nV a) (nV b) H (nV (a + b)) := fun H1 _ _ q => ⟨a, b, rfl, rfl, by dsimp only; rw [← Int.natCast_add]; exact q H1 (Ex.refl H1)⟩
theorem rv_subN {a b : Nat} (h : b ≤ a) : RV (rI0 fun i j => .int (i - j)) (nV a) (nV b) H (nV (a - b)) := fun H1 _ _ q => ⟨a, b, rfl, rfl, by dsimp only; rw [← Int.natCast_sub h]; exact q H1 (Ex.refl H1)⟩
theorem rv_mulN {a b : Nat} (h : a ≤ 4294967296) : RV (rI CMul fun i j => .int (i * j)) (nV a) (nV b) H (nV (a * b)) := fun H1 _ _ q => ⟨a, b, rfl, rfl, .inl ⟨by omega, by omega⟩, by dsimp only; rw [← Int.natCast_mul]; exact q H1 (Ex.refl H1)⟩
theorem rv_ltN {a b : Nat} : RV (rI0 fun i j => .bl (decide (i < j))) (nV a) (nV b) H (.bl (decide (a < b))) := fun H1 _ _ q => ⟨a, b, rfl, rfl, by dsimp only; rw [show decide ((a : Int) < (b : Int)) = decide (a < b) from decide_eq_decide.mpr Int.ofNat_lt]; exact q H1 (Ex.refl H1)⟩
theorem rv_leN {a b : Nat} : RV (rI0 fun i j => .bl (decide (i ≤ j))) (nV a) (nV b) H (.bl (decide (a ≤ b))) := fun H1 _ _ q => ⟨a, b, rfl, rfl, by dsimp only; rw [show decide ((a : Int) ≤ (b : Int)) = decide (a ≤ b) from decide_eq_decide.mpr Int.ofNat_le]; exact q H1 (Ex.refl H1)⟩
theorem rv_gtN {a b : Nat} : RV (rI0 fun i j => .bl (decide (j < i))) (nV a) (nV b) H (.bl (decide (b < a))) := fun H1 _ _ q => ⟨a, b, rfl, rfl, by dsimp only; rw [show decide ((b : Int) < (a : Int)) = decide (b < a) from decide_eq_decide.mpr Int.ofNat_lt]; exact q H1 (Ex.refl H1)⟩
theorem rv_geN {a b : Nat} : RV (rI0 fun i j => .bl (decide (j ≤ i))) (nV a) (nV b) H (.bl (decide (b ≤ a))) := fun H1 _ _ q => ⟨a, b, rfl, rfl, by dsimp only; rw [show decide ((b : Int) ≤ (a : Int)) = decide (b ≤ a) from decide_eq_decide.mpr Int.ofNat_le]; exact q H1 (Ex.refl H1)⟩
theorem nV_inj {a b : Nat} (h : nV a = nV b) : a = b := by
  have h1 : (a : Int) = (b : Int) := V.int.inj h
  omega
theorem rv_eqN {a b : Nat} : RV rEq (nV a) (nV b) H (.bl (decide (a = b))) := fun H1 _ _ q => ⟨rfl, by rw [show decide (nV a = nV b) = decide (a = b) from decide_eq_decide.mpr ⟨nV_inj, fun h => by rw [h]⟩]; exact q H1 (Ex.refl H1)⟩
theorem rv_neN {a b : Nat} : RV rNe (nV a) (nV b) H (.bl (!decide (a = b))) := fun H1 _ _ q => ⟨rfl, by rw [show decide (nV a = nV b) = decide (a = b) from decide_eq_decide.mpr ⟨nV_inj, fun h => by rw [h]⟩]; exact q H1 (Ex.refl H1)⟩
theorem rv_modN {a b : Nat} (h : 0 < b) : RV (rI (fun _ j => j ≠ 0) fun i j => .int (i.fmod j)) (nV a) (nV b) H (nV (a % b)) := fun H1 _ _ q => ⟨a, b, rfl, rfl, by omega, by dsimp only; rw [Int.fmod_eq_emod_of_nonneg _ (by omega), ← Int.natCast_emod]; exact q H1 (Ex.refl H1)⟩
theorem rv_divN {a b : Nat} (h : 0 < b) (hb : b < 1073741824) : RV (rI (fun _ j => j ≠ 0 ∧ j.natAbs < 1073741824) fun i j => .int (i.fdiv j)) (nV a) (nV b) H (nV (a / b)) := fun H1 _ _ q => ⟨a, b, rfl, rfl, ⟨by omega, by omega⟩, by dsimp only; rw [Int.fdiv_eq_ediv_of_nonneg _ (by omega), ← Int.natCast_ediv]; exact q H1 (Ex.refl H1)⟩
theorem rv_ixLN {p : Addr} {xs : List V} {j : Nat} (h : SqL K H p xs) (ha : xs[j]? = some v) : RV (rIxL K) (.ref p) (nV j) H v := rv_ixL h (atI_nat ha)
theorem rv_ixTN {p : Addr} {xs : List V} {j : Nat} (h : SqT K H p xs) (ha : xs[j]? = some v) : RV (rIxT K) (.ref p) (nV j) H v := rv_ixT h (atI_nat ha)
theorem eo_nat {i : Nat} (h : Ev te σ H (nV i)) : EvO (tPart te) σ H (some (i : Int)) := eo_some h
theorem rv_lt {i j : Int} : RV (rI0 fun i j => .bl (decide (i < j))) (.int i) (.int j) H (.bl (decide (i < j))) := rv_I0
/-- xs + ys, both new lists -/
theorem el_cat {xs ys : List V} (ha : EvL ta σ H xs) (hb : EvL tb σ H ys) (hz : xs.length + ys.length ≤ 100000) : EvL (tOp rCat ta tb) σ H (xs ++ ys) := fun H1 e Q k =>
  ha H1 e _ fun p H2 hp e2 h2 => hb H2 (e.trans e2) _ fun q H3 hq e3 h3 => ⟨p, q, xs, ys, rfl, rfl, e3 p _ h2, h3, sz_of hz, fun l hl => k l _ (fresh_back (e2.trans e3) hl) ((e2.trans e3).trans (Ex.new hl)) upd_same⟩
theorem el_rep {xs : List V} {k : Nat} (ha : EvL ta σ H xs) (hb : Ev tb σ H (.int (k : Int))) (hz : xs.length * k ≤ 100000) (hk : k ≤ 100000) : EvL (tOp rRep ta tb) σ H (List.replicate k xs).flatten := fun H1 e Q q =>
  ha H1 e _ fun p H2 hp e2 h2 => hb H2 (e.trans e2) _ fun H3 e3 => ⟨p, (k : Int), xs, rfl, rfl, e3 p _ h2, by omega, by omega, by rw [Int.toNat_natCast]; exact sz_of hz, fun l hl => by
    rw [Int.toNat_natCast]
    exact q l _ (fresh_back (e2.trans e3) hl) ((e2.trans e3).trans (Ex.new hl)) upd_same⟩
theorem ev_sum {ns : List Int} (h : EvL te σ H (ns.map V.int)) : Ev (tCB (rSum K) (tCons te tNil)) σ H (.int ns.sum) := fun H1 e Q q =>
  h H1 e _ fun p H2 hp e2 h2 => ⟨p, ns, rfl, sq_of h2, q H2 e2⟩
def rMin2 : List V → Hp → VK → Prop := fun xs H Q => ∃ i j, xs = [.int i, .int j] ∧ Q (.int (if j < i then j else i)) H
theorem ev_min2 {i j : Int} (ha : Ev ta σ H (.int i)) (hb : Ev tb σ H (.int j)) : Ev (tCB rMin2 (tCons ta (tCons tb tNil))) σ H (.int (if j < i then j else i)) := fun H1 e Q q =>
  ha H1 e _ fun H2 e2 => hb H2 (e.trans e2) _ fun H3 e3 => ⟨i, j, rfl, q H3 (e2.trans e3)⟩
theorem et_yes : EvT tYes σ H true := fun H1 _ _ q => q H1 (Ex.refl H1)
/-- a target takes a value -/
def EvG (g : TG) (x : V) (σ : L2.St) (H : Hp) (σ2 : L2.St) : Prop := ∀ Q : L2.St → Hp → Prop, Q σ2 H → g x σ H Q
theorem eg_name {i : Nat} : EvG (gName i) x σ H (σ.set i (some x)) := fun _ q => q
theorem eg_tup2 {i j : Nat} {p : Addr} (h : SqT K H p [x, y]) : EvG (gTup K 2 (gCons (gName i) (gCons (gName j) gNil))) (.ref p) σ H ((σ.set i (some x)).set j (some y)) := fun _ q => ⟨p, [x, y], rfl, h, rfl, x, [y], rfl, y, [], rfl, rfl, q⟩
/-- a comprehension over a list of things told by l: which are taken, what comes of each -/
theorem el_lcG {α : Type} {a : Addr} {tl : TE} {g : TG} {vs : List Nat} (l : List α) (ex out : α → V) (f : α → Bool) (h : Ev tl σ H (.ref a)) (hx : SqL K H a (l.map ex)) (hz : l.length ≤ 40000)
    (he : ∀ p ∈ l, ∀ H1, Ex H H1 → ∃ σ2, EvG g (ex p) (wipe σ vs) H1 σ2 ∧ wipe σ2 vs = wipe σ vs ∧ EvT t σ2 H1 (f p) ∧ (f p = true → Ev te σ2 H1 (out p))) :
    EvL (tLc (iList K tl) g t te vs) σ H ((l.filter f).map out) := fun H0 e Q q => h H0 e _ fun H1 e1 => ⟨a, rfl, ⟨_, ex_l (e.trans e1) hx⟩, fun Dl hD =>
  lc_list (xs := l.map ex) (fun i H' => Ex H1 H' ∧ H' Dl = some (.lst (((l.take i).filter f).map out))) ⟨Ex.new hD, upd_same⟩ (fun i H' _ p => ex_l ((e.trans e1).trans p.1) hx)
    (fun i x H' hi p => by
      rw [List.getElem?_map] at hi
      cases hl : l[i]? with
      | none => rw [hl] at hi; cases hi
      | some z =>
        rw [hl] at hi
        obtain rfl : ex z = x := Option.some.inj hi
        obtain ⟨p1, p2⟩ := p
        have step : (l.take (i + 1)).filter f = (l.take i).filter f ++ (if f z = true then [z] else []) := by
          rw [List.take_add_one, hl, List.filter_append]
          show _ ++ List.filter f [z] = _
          rw [List.filter_cons, List.filter_nil]
        have ii := (List.getElem?_eq_some_iff.mp hl).1
        obtain ⟨σ2, hg, h1, h3, h4⟩ := he z (List.mem_of_getElem? hl) H' ((e.trans e1).trans p1)
        refine hg _ ⟨h1, h3 H' (Ex.refl H') _ fun H3 e3 => ?_⟩
        cases hf : f z with
        | true =>
          show te σ2 H3 fun y H4 => ∃ acc, H4 Dl = some (.lst acc) ∧ acc.length < sizeLine ∧ (Ex H1 (upd H4 Dl (.lst (acc ++ [y]))) ∧ (upd H4 Dl (.lst (acc ++ [y]))) Dl = some (.lst (((l.take (i + 1)).filter f).map out)))
          refine h4 hf H3 e3 _ fun H4 e4 => ⟨_, e4 Dl _ (e3 Dl _ p2), sz_lt ?_, Ex.mut ((p1.trans e3).trans e4) hD, ?_⟩
          · rw [List.length_map]
            have := List.length_filter_le f (l.take i)
            rw [List.length_take] at this
            omega
          · rw [upd_same, step, hf, if_pos rfl, List.map_append]
            rfl
        | false =>
          show Ex H1 H3 ∧ H3 Dl = some (.lst (((l.take (i + 1)).filter f).map out))
          refine ⟨p1.trans e3, ?_⟩
          rw [step, hf]
          simp only [Bool.false_eq_true, if_false, List.append_nil]
          exact e3 Dl _ p2)
    (fun H' p => by
      rw [List.length_map, List.take_length] at p
      exact q Dl H' (fresh_back e1 hD) (e1.trans p.1) p.2)⟩
/-- over a walk that gives new pairs (enumerate, zip) or numbers: what comes of the i-th -/
theorem el_lcW {wi : TI} {g : TG} {vs : List Nat} {n : Nat} (out : Nat → V) (hz : n ≤ 40000) (Y : Nat → Hp → V → Hp → Prop)
    (hw : ∀ H0, Ex H H0 → ∀ R : It → Hp → Prop, (∀ J G H1, Ex H0 H1 → Walk J n G Y → (∀ H2, Ex H1 H2 → G H2) → R J H1) → wi σ H0 R)
    (hY : ∀ i H1 x H2, Ex H H1 → Y i H1 x H2 → Ex H1 H2)
    (he : ∀ i H1 x H2, i < n → Ex H H1 → Y i H1 x H2 → ∃ σ2, EvG g x (wipe σ vs) H2 σ2 ∧ wipe σ2 vs = wipe σ vs ∧ EvT t σ2 H2 true ∧ Ev te σ2 H2 (out i)) :
    EvL (tLc wi g t te vs) σ H ((List.range n).map out) := fun H0 e Q q => hw H0 e _ fun J G H1 e1 W hG Dl hD =>
  lc_it W (fun i H' => Ex H1 H' ∧ H' Dl = some (.lst ((List.range i).map out))) ⟨Ex.new hD, upd_same⟩ (fun i H' _ p => hG H' p.1)
    (fun i x H' H2 hi p y => by
      obtain ⟨p1, p2⟩ := p
      have ey := hY i H' x H2 ((e.trans e1).trans p1) y
      obtain ⟨σ2, hg, h1, h3, h4⟩ := he i H' x H2 hi ((e.trans e1).trans p1) y
      refine hg _ ⟨h1, h3 H2 (Ex.refl H2) _ fun H3 e3 => ?_⟩
      show te σ2 H3 fun y H4 => ∃ acc, H4 Dl = some (.lst acc) ∧ acc.length < sizeLine ∧ (Ex H1 (upd H4 Dl (.lst (acc ++ [y]))) ∧ (upd H4 Dl (.lst (acc ++ [y]))) Dl = some (.lst ((List.range (i + 1)).map out)))
      refine h4 H3 e3 _ fun H4 e4 => ⟨_, e4 Dl _ (e3 Dl _ (ey Dl _ p2)), sz_lt ?_, Ex.mut (((p1.trans ey).trans e3).trans e4) hD, ?_⟩
      · rw [List.length_map, List.length_range]; omega
      · rw [upd_same, List.range_succ, List.map_append]
        rfl)
    (fun H' p => q Dl H' (fresh_back e1 hD) (e1.trans p.1) p.2)
/-- over enumerate(list) -/
theorem el_lcE {a : Addr} {xs : List V} {ta : TA} {g : TG} {vs : List Nat} (out : Nat → V) (h : EvA ta σ H [.ref a]) (hx : SqL K H a xs) (hz : xs.length ≤ 40000)
    (he : ∀ i x p H1, xs[i]? = some x → Ex H H1 → SqT K H1 p [nV i, x] → ∃ σ2, EvG g (.ref p) (wipe σ vs) H1 σ2 ∧ wipe σ2 vs = wipe σ vs ∧ EvT t σ2 H1 true ∧ Ev te σ2 H1 (out i)) :
    EvL (tLc (iEnum K ta) g t te vs) σ H ((List.range xs.length).map out) := by
  refine el_lcW out hz (YPair (fun i => some (.int (i : Nat))) (fun i => xs[i]?)) (fun H0 e R hR => h H0 e _ fun H1 e1 => ⟨a, xs, rfl, ex_l (e.trans e1) hx, hR _ _ H1 e1 walk_enum fun H2 e2 => ex_l ((e.trans e1).trans e2) hx⟩) (fun i H1 x H2 _ y => ?_) (fun i H1 x H2 hi e1 y => ?_)
  · obtain ⟨T, x1, x2, _, hT, rfl, _, _⟩ := y
    exact Ex.new hT
  · obtain ⟨T, x1, x2, rfl, hT, rfl, e2, e3⟩ := y
    obtain rfl : V.int (i : Nat) = x1 := Option.some.inj e2
    exact he i x2 T _ e3 (e1.trans (Ex.new hT)) (st_of upd_same)
/-! ### lists of numbers compared -/
theorem dp_ints : ∀ (cs : List Nat), DpAll K H (cs.map nV) ((cs.map fun (n : Nat) => (n : Int)).map PyData.int)
  | [] => .nil
  | c :: r => .cons (.int _) (dp_ints r)
theorem eqv_ints : ∀ (cs ds : List Nat), PyData.eqvAll ((cs.map fun (n : Nat) => (n : Int)).map PyData.int) ((ds.map fun (n : Nat) => (n : Int)).map PyData.int) = decide (cs = ds)
  | [], [] => rfl
  | [], _ :: _ => rfl
  | _ :: _, [] => rfl
  | c :: cs, d :: ds => by
    have ih := eqv_ints cs ds
    show (((c : Int) == (d : Int)) && PyData.eqvAll _ _) = _
    rw [ih]
    by_cases h : c = d
    · subst h
      simp
    · have h2 : ((c : Int) == (d : Int)) = false := by
        rw [beq_eq_false_iff_ne]
        intro z
        exact h (by omega)
      rw [h2, Bool.false_and]
      exact (decide_eq_false (fun z => h (List.cons.inj z).1)).symm
theorem rv_eqL {a b : Addr} {cs ds : List Nat} (ha : SqL K H a (cs.map nV)) (hb : SqL K H b (ds.map nV)) : RV (rEqD K) (.ref a) (.ref b) H (.bl (decide (cs = ds))) := fun H1 e Q q =>
  ⟨_, _, .lst (ex_l e ha) (dp_ints cs), .lst (ex_l e hb) (dp_ints ds), PySem.W.shaped_ints _, PySem.W.shaped_ints _, by
    show Q (V.bl (PyData.eqvAll _ _)) H1
    rw [eqv_ints]
    exact q H1 (Ex.refl H1)⟩
theorem rv_neL {a b : Addr} {cs ds : List Nat} (ha : SqL K H a (cs.map nV)) (hb : SqL K H b (ds.map nV)) : RV (rNeD K) (.ref a) (.ref b) H (.bl (!decide (cs = ds))) := fun H1 e Q q =>
  ⟨_, _, .lst (ex_l e ha) (dp_ints cs), .lst (ex_l e hb) (dp_ints ds), PySem.W.shaped_ints _, PySem.W.shaped_ints _, by
    show Q (V.bl (!PyData.eqvAll _ _)) H1
    rw [eqv_ints]
    exact q H1 (Ex.refl H1)⟩
theorem ev_neg1 : Ev (tUn (rU fun i => .int (-i)) (tC (.int 1))) σ H (.int (-1)) := ev_un ev_c ru_neg
theorem rv_last {p : Addr} {xs : List V} (h : SqL K H p (xs ++ [v])) : RV (rIxL K) (.ref p) (.int (-1)) H v := rv_ixL h (atI_last xs v)
theorem ixN_last {xs : List V} {v : V} : ixN (xs ++ [v]).length (-1) = some xs.length := by
  unfold ixN
  rw [if_neg (by decide), if_pos (by rw [List.length_append]; simp; omega)]
  rw [List.length_append]
  simp
  omega
theorem ev_minN {a b : Nat} (ha : Ev ta σ H (nV a)) (hb : Ev tb σ H (nV b)) : Ev (tCB rMin2 (tCons ta (tCons tb tNil))) σ H (nV (min a b)) := ev_is (ev_min2 ha hb) (congrArg V.int (by
  by_cases h : b < a
  · rw [if_pos (by omega)]; omega
  · rw [if_neg (by omega)]; omega))
theorem ev_maxN {a b : Nat} (ha : Ev ta σ H (nV a)) (hb : Ev tb σ H (nV b)) : Ev (tCB rMax2 (tCons ta (tCons tb tNil))) σ H (nV (max a b)) := ev_is (ev_max2 ha hb) (congrArg V.int (by
  by_cases h : b > a
  · rw [if_pos (by omega)]; omega
  · rw [if_neg (by omega)]; omega))
theorem ev_lenL {p : Addr} {xs : List V} (ha : Ev ta σ H (.ref p)) (h : SqL K H p xs) : Ev (tCB (rLenS K) (tCons ta tNil)) σ H (nV xs.length) := ev_len ha h
end
end FF

set_option Elab.async false
set_option linter.all false
set_option maxRecDepth 100000
set_option maxHeartbeats 2000000
namespace FF
open PySem PySem.Spec PyProof.Rows L2 Evl
def RetU (xs : List V) (H : Hp) (Q : VK) : Prop := ∀ p H2, H p = none → Ex H H2 → H2 p = some (.tup xs) → Q (.ref p) H2
section
variable {K : PySem.W.Frag} {σ : L2.St} {H H' : Hp} {ta tb te : TE} {t : TT} {x y z v : V} {r : R2} {D : Ends} {tz tu : TS} {g : TG}
/-- a comprehension with a test over a walk -/
theorem el_lcWF {wi : TI} {vs : List Nat} {n : Nat} (f : Nat → Bool) (out : Nat → V) (hz : n ≤ 40000) (Y : Nat → Hp → V → Hp → Prop)
    (hw : ∀ H0, Ex H H0 → ∀ R : It → Hp → Prop, (∀ J G H1, Ex H0 H1 → Walk J n G Y → (∀ H2, Ex H1 H2 → G H2) → R J H1) → wi σ H0 R)
    (hY : ∀ i H1 x H2, Ex H H1 → Y i H1 x H2 → Ex H1 H2)
    (he : ∀ i H1 x H2, i < n → Ex H H1 → Y i H1 x H2 → ∃ σ2, EvG g x (wipe σ vs) H2 σ2 ∧ wipe σ2 vs = wipe σ vs ∧ EvT t σ2 H2 (f i) ∧ (f i = true → Ev te σ2 H2 (out i))) :
    EvL (tLc wi g t te vs) σ H (given n f out) := fun H0 e Q q => hw H0 e _ fun J G H1 e1 W hG Dl hD =>
  lc_it W (fun i H' => Ex H1 H' ∧ H' Dl = some (.lst (given i f out))) ⟨Ex.new hD, upd_same⟩ (fun i H' _ p => hG H' p.1)
    (fun i x H' H2 hi p y => by
      obtain ⟨p1, p2⟩ := p
      have ey := hY i H' x H2 ((e.trans e1).trans p1) y
      obtain ⟨σ2, hg, h1, h3, h4⟩ := he i H' x H2 hi ((e.trans e1).trans p1) y
      refine hg _ ⟨h1, h3 H2 (Ex.refl H2) _ fun H3 e3 => ?_⟩
      cases hf : f i with
      | true =>
        show te σ2 H3 fun y H4 => ∃ acc, H4 Dl = some (.lst acc) ∧ acc.length < sizeLine ∧ (Ex H1 (upd H4 Dl (.lst (acc ++ [y]))) ∧ (upd H4 Dl (.lst (acc ++ [y]))) Dl = some (.lst (given (i + 1) f out)))
        refine h4 hf H3 e3 _ fun H4 e4 => ⟨_, e4 Dl _ (e3 Dl _ (ey Dl _ p2)), sz_lt ?_, Ex.mut (((p1.trans ey).trans e3).trans e4) hD, ?_⟩
        · have := given_len i f out; omega
        · rw [upd_same, given_yes hf]
      | false =>
        show Ex H1 H3 ∧ H3 Dl = some (.lst (given (i + 1) f out))
        refine ⟨(p1.trans ey).trans e3, ?_⟩
        rw [given_no hf]
        exact e3 Dl _ (ey Dl _ p2))
    (fun H' p => q Dl H' (fresh_back e1 hD) (e1.trans p.1) p.2)
/-- over enumerate(list), with a test -/
theorem el_lcEF {a : Addr} {xs : List V} {ta : TA} {vs : List Nat} (f : Nat → Bool) (out : Nat → V) (h : EvA ta σ H [.ref a]) (hx : SqL K H a xs) (hz : xs.length ≤ 40000)
    (he : ∀ i x p H1, xs[i]? = some x → Ex H H1 → SqT K H1 p [nV i, x] → ∃ σ2, EvG g (.ref p) (wipe σ vs) H1 σ2 ∧ wipe σ2 vs = wipe σ vs ∧ EvT t σ2 H1 (f i) ∧ (f i = true → Ev te σ2 H1 (out i))) :
    EvL (tLc (iEnum K ta) g t te vs) σ H (given xs.length f out) := by
  refine el_lcWF f out hz (YPair (fun i => some (.int (i : Nat))) (fun i => xs[i]?)) (fun H0 e R hR => h H0 e _ fun H1 e1 => ⟨a, xs, rfl, ex_l (e.trans e1) hx, hR _ _ H1 e1 walk_enum fun H2 e2 => ex_l ((e.trans e1).trans e2) hx⟩) (fun i H1 x H2 _ y => ?_) (fun i H1 x H2 hi e1 y => ?_)
  · obtain ⟨T, x1, x2, _, hT, rfl, _, _⟩ := y
    exact Ex.new hT
  · obtain ⟨T, x1, x2, rfl, hT, rfl, e2, e3⟩ := y
    obtain rfl : V.int (i : Nat) = x1 := Option.some.inj e2
    exact he i x2 T _ e3 (e1.trans (Ex.new hT)) (st_of upd_same)
/-- over zip(list, list) of one length -/
theorem el_lcZ {a b : Addr} {xs ys : List V} {ta : TA} {vs : List Nat} (out : Nat → V) (h : EvA ta σ H [.ref a, .ref b]) (hx : SqL K H a xs) (hy : SqL K H b ys) (hn : xs.length = ys.length) (hz : xs.length ≤ 40000)
    (he : ∀ i x y p H1, xs[i]? = some x → ys[i]? = some y → Ex H H1 → SqT K H1 p [x, y] → ∃ σ2, EvG g (.ref p) (wipe σ vs) H1 σ2 ∧ wipe σ2 vs = wipe σ vs ∧ EvT t σ2 H1 true ∧ Ev te σ2 H1 (out i)) :
    EvL (tLc (iZip K ta) g t te vs) σ H ((List.range xs.length).map out) := by
  refine el_lcW out hz (YPair (fun i => xs[i]?) (fun i => ys[i]?)) (fun H0 e R hR => h H0 e _ fun H1 e1 => ⟨a, b, xs, ys, rfl, ex_l (e.trans e1) hx, ex_l (e.trans e1) hy, hR _ _ H1 e1 (walk_zip (by omega)) fun H2 e2 => ⟨ex_l ((e.trans e1).trans e2) hx, ex_l ((e.trans e1).trans e2) hy⟩⟩) (fun i H1 x H2 _ y => ?_) (fun i H1 x H2 hi e1 y => ?_)
  · obtain ⟨T, x1, x2, _, hT, rfl, _, _⟩ := y
    exact Ex.new hT
  · obtain ⟨T, x1, x2, rfl, hT, rfl, e2, e3⟩ := y
    exact he i x1 x2 T _ e2 e3 (e1.trans (Ex.new hT)) (st_of upd_same)
/-- for .. in enumerate(list) -/
theorem q_forE {a : Addr} {xs : List V} {ta : TA} (h : EvA ta σ H [.ref a]) (hx : SqL K H a xs) (Pv : Nat → L2.St → Hp → Prop) (h0 : ∀ H1, Ex H H1 → Pv 0 σ H1) (hl : ∀ i σ' H', i ≤ xs.length → Pv i σ' H' → SqL K H' a xs)
    (hs : ∀ i x p σ' H', xs[i]? = some x → H' p = none → Pv i σ' H' → g (.ref p) σ' (upd H' p (.tup [nV i, x])) fun σ2 H2 => tu { D with nx := Pv (i + 1), ct := Pv (i + 1), bk := tz D } σ2 H2) (hd : ∀ σ' H', Pv xs.length σ' H' → tz D σ' H') : tSeq (tFor (iEnum K ta) g tu) tz D σ H :=
  h H (Ex.refl H) _ fun H1 e => ⟨a, xs, rfl, ex_l e hx, for_it (D := { D with nx := tz D }) walk_enum Pv (h0 H1 e) hl (fun i x σ' H' H2 hi p y => by
    obtain ⟨T, x1, x2, rfl, hT, rfl, e2, e3⟩ := y
    obtain rfl : V.int (i : Nat) = x1 := Option.some.inj e2
    exact hs i x2 T σ' H' e3 hT p) hd⟩
/-! ### min, max, any of a list; list(tuple) -/
theorem iv_map (ns : List Nat) : (ns.map fun (n : Nat) => (n : Int)).map V.int = ns.map nV := by
  rw [List.map_map]
  rfl
theorem ev_minL {p : Addr} {ns : List Nat} (ha : Ev ta σ H (.ref p)) (h : SqL K H p (ns.map nV)) (hn : ns ≠ []) : Ev (tCB (rMin K) (tCons ta tNil)) σ H (nV (Ie12.leastOf ns)) := fun H1 e Q q =>
  ha H1 e _ fun H2 e2 => ⟨p, ns.map fun (n : Nat) => (n : Int), rfl, by rw [iv_map]; exact ex_l (e.trans e2) h, by rw [List.length_map]; exact List.length_pos_iff.mpr hn, fun m hm hle => by
    obtain ⟨l1, l2⟩ := least_mem hn
    obtain ⟨k, hk, rfl⟩ := List.mem_map.mp hm
    have h1 := hle _ (List.mem_map.mpr ⟨_, l1, rfl⟩)
    have h2 := l2 k hk
    have : k = Ie12.leastOf ns := by omega
    rw [this]
    exact q H2 e2⟩
theorem ev_maxL {p : Addr} {ns : List Nat} (ha : Ev ta σ H (.ref p)) (h : SqL K H p (ns.map nV)) (hn : ns ≠ []) : Ev (tCB (rMax K) (tCons ta tNil)) σ H (nV (ns.foldl max 0)) := fun H1 e Q q =>
  ha H1 e _ fun H2 e2 => ⟨p, ns.map fun (n : Nat) => (n : Int), rfl, by rw [iv_map]; exact ex_l (e.trans e2) h, by rw [List.length_map]; exact List.length_pos_iff.mpr hn, fun m hm hle => by
    obtain ⟨l1, l2⟩ := most_mem hn
    obtain ⟨k, hk, rfl⟩ := List.mem_map.mp hm
    have h1 := hle _ (List.mem_map.mpr ⟨_, l1, rfl⟩)
    have h2 := l2 k hk
    have : k = ns.foldl max 0 := by omega
    rw [this]
    exact q H2 e2⟩
theorem ev_any {bs : List Bool} (h : EvL te σ H (bs.map V.bl)) : Ev (tCB (rAny K) (tCons te tNil)) σ H (.bl (bs.any id)) := fun H1 e Q q =>
  h H1 e _ fun p H2 hp e2 h2 => ⟨p, bs, rfl, sq_of h2, q H2 e2⟩
theorem el_listU {xs : List V} (h : EvU te σ H xs) : EvL (tCB (rListS K) (tCons te tNil)) σ H xs := fun H1 e Q q =>
  h H1 e _ fun p H2 hp e2 h2 => ⟨p, xs, rfl, .inr (st_of h2), fun l hl => q l _ (fresh_back e2 hl) (e2.trans (Ex.new hl)) upd_same⟩
/-- t[i], t a new tuple -/
theorem ev_ixU {xs : List V} {j : Nat} (ha : EvU ta σ H xs) (hj : xs[j]? = some v) : Ev (tOp (rIxT K) ta (tC (nV j))) σ H v := fun H1 e Q q =>
  ha H1 e _ fun p H2 hp e2 h2 => ⟨p, xs, j, v, rfl, rfl, st_of h2, atI_nat hj, q H2 e2⟩
/-- (x, new list) -/
theorem eu_tupL {xs : List V} (ha : Ev ta σ H x) (hl : EvL te σ H xs) {H1 : Hp} (e : Ex H H1) {Q : VK} (q : ∀ p c H2, H1 p = none → H1 c = none → Ex H1 H2 → H2 p = some (.tup [x, .ref c]) → H2 c = some (.lst xs) → Q (.ref p) H2) : tTup (tCons ta (tCons te tNil)) σ H1 Q :=
  ha H1 e _ fun H2 e2 => hl H2 (e.trans e2) _ fun c H3 hc e3 h3 => ⟨by show 2 ≤ sizeLine; decide, fun p hp => q p c _ (fresh_back (e2.trans e3) hp) (fresh_back e2 hc) ((e2.trans e3).trans (Ex.new hp)) upd_same (by rw [upd_ne (ne_of_none h3 hp)]; exact h3)⟩
/-! ### += , -= ; is None; append, extend of long lists -/
theorem q_addN {i a b : Nat} (hx : σ[i]? = some (some (nV a))) (h : Ev te σ H (nV b)) (k : ∀ H1, Ex H H1 → tz D (σ.set i (some (nV (a + b)))) H1) : tSeq (tAug i te (ipI fun i j => i + j)) tz D σ H :=
  q_aug (f := fun i j => i + j) hx h fun H1 e => by
    have := k H1 e
    rw [nV_def, Int.natCast_add] at this
    exact this
theorem s_addN {i a b : Nat} (hx : σ[i]? = some (some (nV a))) (h : Ev te σ H (nV b)) (k : ∀ H1, Ex H H1 → D.nx (σ.set i (some (nV (a + b)))) H1) : tAug i te (ipI fun i j => i + j) D σ H :=
  s_aug (f := fun i j => i + j) hx h fun H1 e => by
    have := k H1 e
    rw [nV_def, Int.natCast_add] at this
    exact this
theorem q_subN {i a b : Nat} (hle : b ≤ a) (hx : σ[i]? = some (some (nV a))) (h : Ev te σ H (nV b)) (k : ∀ H1, Ex H H1 → tz D (σ.set i (some (nV (a - b)))) H1) : tSeq (tAug i te (ipI fun i j => i - j)) tz D σ H :=
  q_aug (f := fun i j => i - j) hx h fun H1 e => by
    have := k H1 e
    rw [nV_def, Int.natCast_sub hle] at this
    exact this
theorem rv_isN : RV (fun x y H Q => y = .non ∧ Q (.bl (decide (x = .non))) H) x .non H (.bl (decide (x = .non))) := fun H1 _ _ q => ⟨rfl, q H1 (Ex.refl H1)⟩
/-- xs.append(e), xs.extend(ys), long lists -/
theorem q_appW {l : Addr} {xs : List V} (hl : H l = some (.lst xs)) (ha : Ev ta σ H (.ref l)) (h : Ev te σ H v) (hz : xs.length < sizeLine) (k : ∀ H1, Ex H H1 → tz D σ (upd H1 l (.lst (xs ++ [v])))) :
    tSeq (tDrop (tBM K "list" rAppend ta (tCons te tNil))) tz D σ H := ha H (Ex.refl H) _ fun H1 e1 =>
  ⟨Or.inl ⟨rfl, xs, sq_of (e1 l _ hl)⟩, h H1 e1 _ fun H2 e2 => ⟨l, xs, v, rfl, rfl, (e1.trans e2) l _ hl, hz, k H2 (e1.trans e2)⟩⟩
theorem q_extW {l b : Addr} {xs ys : List V} (hl : H l = some (.lst xs)) (ha : Ev ta σ H (.ref l)) (h : Ev te σ H (.ref b)) (hb : H b = some (.lst ys)) (hz : xs.length + ys.length ≤ sizeLine) (k : ∀ H1, Ex H H1 → tz D σ (upd H1 l (.lst (xs ++ ys)))) :
    tSeq (tDrop (tBM K "list" rExtend ta (tCons te tNil))) tz D σ H := ha H (Ex.refl H) _ fun H1 e1 =>
  ⟨Or.inl ⟨rfl, xs, sq_of (e1 l _ hl)⟩, h H1 e1 _ fun H2 e2 => ⟨l, b, xs, ys, rfl, rfl, (e1.trans e2) l _ hl, (e1.trans e2) b _ hb, hz, k H2 (e1.trans e2)⟩⟩
/-- .. of a new list -/
theorem q_extN {l : Addr} {xs ys : List V} (hl : H l = some (.lst xs)) (ha : Ev ta σ H (.ref l)) (h : EvL te σ H ys) (hz : xs.length + ys.length ≤ sizeLine) (k : ∀ H1, Ex H H1 → tz D σ (upd H1 l (.lst (xs ++ ys)))) :
    tSeq (tDrop (tBM K "list" rExtend ta (tCons te tNil))) tz D σ H := ha H (Ex.refl H) _ fun H1 e1 =>
  ⟨Or.inl ⟨rfl, xs, sq_of (e1 l _ hl)⟩, h H1 e1 _ fun b H2 hb e2 h2 => ⟨l, b, xs, ys, rfl, rfl, (e1.trans e2) l _ hl, h2, hz, k H2 (e1.trans e2)⟩⟩
end
end FF

set_option Elab.async false
set_option linter.all false
set_option maxRecDepth 100000
set_option maxHeartbeats 2000000
namespace FF
open PySem PySem.Spec PyProof.Rows L2 Evl
/-! ### the text: places, slots, scopes (printed from the program) -/
def top (i : Nat) : Stmt := PySem.Challenge.pw_filmframes_s01_answers.main.body.getD i (.Pass ⟨0, 0, 0, 0⟩)
/-- Film.init: 0 self -/
abbrev s_init : Stmt := L2.inClass (top 39) 0
theorem sc_init : FnScope ["self"] ["self"] (C8.fnScope s_init) := C8.fnScope_by (by decide +kernel)
/-- Film.begin: 0 self, 1 width, 2 height -/
abbrev s_begin : Stmt := L2.inClass (top 39) 1
theorem sc_begin : FnScope ["self", "width", "height"] ["self", "width", "height"] (C8.fnScope s_begin) := C8.fnScope_by (by decide +kernel)
/-- Film.remember: 0 self -/
abbrev s_remember : Stmt := L2.inClass (top 39) 2
theorem sc_remember : FnScope ["self"] ["self"] (C8.fnScope s_remember) := C8.fnScope_by (by decide +kernel)
/-- Film.extent: 0 self -/
abbrev s_extent : Stmt := L2.inClass (top 39) 3
theorem sc_extent : FnScope ["self"] ["self"] (C8.fnScope s_extent) := C8.fnScope_by (by decide +kernel)
/-- Film.change_frames: 0 self, 1 frames -/
abbrev s_change_frames : Stmt := L2.inClass (top 39) 4
theorem sc_change_frames : FnScope ["self", "frames"] ["self", "frames"] (C8.fnScope s_change_frames) := C8.fnScope_by (by decide +kernel)
/-- Film.change_goes_on: 0 self, 1 goes_on -/
abbrev s_change_goes_on : Stmt := L2.inClass (top 39) 5
theorem sc_change_goes_on : FnScope ["self", "goes_on"] ["self", "goes_on"] (C8.fnScope s_change_goes_on) := C8.fnScope_by (by decide +kernel)
/-- Film.change_size: 0 self, 1 width, 2 height, 3 frames -/
abbrev s_change_size : Stmt := L2.inClass (top 39) 6
theorem sc_change_size : FnScope ["self", "width", "height", "frames"] ["self", "width", "height", "frames"] (C8.fnScope s_change_size) := C8.fnScope_by (by decide +kernel)
/-- Film.go_back: 0 self, 1 was -/
abbrev s_go_back : Stmt := L2.inClass (top 39) 7
theorem sc_go_back : FnScope ["self", "was"] ["self"] (C8.fnScope s_go_back) := C8.fnScope_by (by decide +kernel)
/-- Film.has_frame: 0 self, 1 i -/
abbrev s_has_frame : Stmt := L2.inClass (top 39) 8
theorem sc_has_frame : FnScope ["self", "i"] ["self", "i"] (C8.fnScope s_has_frame) := C8.fnScope_by (by decide +kernel)
/-- Film.place_at: 0 self, 1 tick -/
abbrev s_place_at : Stmt := L2.inClass (top 39) 9
theorem sc_place_at : FnScope ["self", "tick"] ["self", "tick"] (C8.fnScope s_place_at) := C8.fnScope_by (by decide +kernel)
/-- blank_cells: 0 width, 1 height -/
abbrev s_blank_cells : Stmt := top 7
theorem sc_blank_cells : FnScope ["width", "height"] ["width", "height"] (C8.fnScope s_blank_cells) := C8.fnScope_by (by decide +kernel)
/-- blank_frame: 0 width, 1 height -/
abbrev s_blank_frame : Stmt := top 8
theorem sc_blank_frame : FnScope ["width", "height"] ["width", "height"] (C8.fnScope s_blank_frame) := C8.fnScope_by (by decide +kernel)
/-- all_ticks: 0 frames, 1 ticks, 2 cells -/
abbrev s_all_ticks : Stmt := top 9
theorem sc_all_ticks : FnScope ["frames", "ticks", "cells"] ["frames"] (C8.fnScope s_all_ticks) := C8.fnScope_by (by decide +kernel)
/-- doubled: 0 frames, 1 i -/
abbrev s_doubled : Stmt := top 10
theorem sc_doubled : FnScope ["frames", "i"] ["frames", "i"] (C8.fnScope s_doubled) := C8.fnScope_by (by decide +kernel)
/-- without: 0 frames, 1 i -/
abbrev s_without : Stmt := top 11
theorem sc_without : FnScope ["frames", "i"] ["frames", "i"] (C8.fnScope s_without) := C8.fnScope_by (by decide +kernel)
/-- replaced: 0 frames, 1 i, 2 frame -/
abbrev s_replaced : Stmt := top 12
theorem sc_replaced : FnScope ["frames", "i", "frame"] ["frames", "i", "frame"] (C8.fnScope s_replaced) := C8.fnScope_by (by decide +kernel)
/-- in_box: 0 box, 1 column, 2 row -/
abbrev s_in_box : Stmt := top 13
theorem sc_in_box : FnScope ["box", "column", "row"] ["box", "column", "row"] (C8.fnScope s_in_box) := C8.fnScope_by (by decide +kernel)
/-- filled: 0 cells, 1 width, 2 box, 3 number, 4 c, 5 cell; cells box number width -/
abbrev s_filled : Stmt := top 14
theorem sc_filled : FnScope ["cells", "width", "box", "number", "c", "cell"] ["cells", "width", "box", "number"] (C8.fnScope s_filled) := C8.fnScope_by (by decide +kernel)
/-- put_together: 0 frames, 1 left, 2 ticks, 3 cells -/
abbrev s_put_together : Stmt := top 15
theorem sc_put_together : FnScope ["frames", "left", "ticks", "cells"] ["frames"] (C8.fnScope s_put_together) := C8.fnScope_by (by decide +kernel)
/-- cut_out: 0 frames, 1 first, 2 count, 3 stretch, 4 start, 5 ticks, 6 cells, 7 end, 8 within -/
abbrev s_cut_out : Stmt := top 16
theorem sc_cut_out : FnScope ["frames", "first", "count", "stretch", "start", "ticks", "cells", "end", "within"] ["frames", "first", "count"] (C8.fnScope s_cut_out) := C8.fnScope_by (by decide +kernel)
/-- nearest: 0 number, 1 parts -/
abbrev s_nearest : Stmt := top 17
theorem sc_nearest : FnScope ["number", "parts"] ["number", "parts"] (C8.fnScope s_nearest) := C8.fnScope_by (by decide +kernel)
/-- brought: 0 frames, 1 length, 2 whole, 3 moved, 4 end, 5 moved_start, 6 ticks, 7 cells, 8 moved_end -/
abbrev s_brought : Stmt := top 18
theorem sc_brought : FnScope ["frames", "length", "whole", "moved", "end", "moved_start", "ticks", "cells", "moved_end"] ["frames", "length"] (C8.fnScope s_brought) := C8.fnScope_by (by decide +kernel)
/-- own_tick: 0 tick, 1 length, 2 goes_on, 3 there -/
abbrev s_own_tick : Stmt := top 19
theorem sc_own_tick : FnScope ["tick", "length", "goes_on", "there"] ["tick", "length", "goes_on"] (C8.fnScope s_own_tick) := C8.fnScope_by (by decide +kernel)
/-- place_of: 0 frames, 1 tick, 2 i, 3 into -/
abbrev s_place_of : Stmt := top 20
theorem sc_place_of : FnScope ["frames", "tick", "i", "into"] ["frames", "tick"] (C8.fnScope s_place_of) := C8.fnScope_by (by decide +kernel)
/-- frame_behind: 0 frames, 1 i, 2 goes_on -/
abbrev s_frame_behind : Stmt := top 21
theorem sc_frame_behind : FnScope ["frames", "i", "goes_on"] ["frames", "i", "goes_on"] (C8.fnScope s_frame_behind) := C8.fnScope_by (by decide +kernel)
/-- mixed: 0 frame, 1 cells, 2 into, 3 ticks, 4 a, 5 b; cells into ticks -/
abbrev s_mixed : Stmt := top 22
theorem sc_mixed : FnScope ["frame", "cells", "into", "ticks", "a", "b"] ["frame", "cells", "into"] (C8.fnScope s_mixed) := C8.fnScope_by (by decide +kernel)
/-- changed_box: 0 before, 1 cells, 2 width, 3 differing, 4 columns, 5 rows, 6 x, 7 y, 8 c; cells before cells width -/
abbrev s_changed_box : Stmt := top 23
theorem sc_changed_box : FnScope ["before", "cells", "width", "differing", "columns", "rows", "x", "y", "c"] ["before", "cells", "width"] (C8.fnScope s_changed_box) := C8.fnScope_by (by decide +kernel)
/-- cells_in: 0 cells, 1 width, 2 box, 3 c, 4 cell; cells box width -/
abbrev s_cells_in : Stmt := top 24
theorem sc_cells_in : FnScope ["cells", "width", "box", "c", "cell"] ["cells", "width", "box"] (C8.fnScope s_cells_in) := C8.fnScope_by (by decide +kernel)
/-- told_of: 0 frames, 1 width, 2 numbers, 3 before, 4 ticks, 5 cells, 6 box -/
abbrev s_told_of : Stmt := top 25
theorem sc_told_of : FnScope ["frames", "width", "numbers", "before", "ticks", "cells", "box"] ["frames", "width"] (C8.fnScope s_told_of) := C8.fnScope_by (by decide +kernel)
/-- pasted: 0 cells, 1 width, 2 box, 3 numbers, 4 changed, 5 k, 6 number, 7 column, 8 row -/
abbrev s_pasted : Stmt := top 26
theorem sc_pasted : FnScope ["cells", "width", "box", "numbers", "changed", "k", "number", "column", "row"] ["cells", "width", "box", "numbers"] (C8.fnScope s_pasted) := C8.fnScope_by (by decide +kernel)
/-- is_head: 0 head, 1 width, 2 height -/
abbrev s_is_head : Stmt := top 27
theorem sc_is_head : FnScope ["head", "width", "height"] ["head", "width", "height"] (C8.fnScope s_is_head) := C8.fnScope_by (by decide +kernel)
/-- read_from: 0 numbers, 1 width, 2 height, 3 frames, 4 cells, 5 at, 6 head, 7 behind, 8 inner, 9 number -/
abbrev s_read_from : Stmt := top 28
theorem sc_read_from : FnScope ["numbers", "width", "height", "frames", "cells", "at", "head", "behind", "inner", "number"] ["numbers", "width", "height"] (C8.fnScope s_read_from) := C8.fnScope_by (by decide +kernel)
/-- is_size: 0 width, 1 height -/
abbrev s_is_size : Stmt := top 40
theorem sc_is_size : FnScope ["width", "height"] ["width", "height"] (C8.fnScope s_is_size) := C8.fnScope_by (by decide +kernel)
/-- page: 0 film, 1 given -/
abbrev s_page : Stmt := top 41
theorem sc_page : FnScope ["film", "given"] ["film", "given"] (C8.fnScope s_page) := C8.fnScope_by (by decide +kernel)
/-- put: 0 film, 1 given, 2 i, 3 frames -/
abbrev s_put : Stmt := top 42
theorem sc_put : FnScope ["film", "given", "i", "frames"] ["film", "given"] (C8.fnScope s_put) := C8.fnScope_by (by decide +kernel)
/-- drop: 0 film, 1 given, 2 i -/
abbrev s_drop : Stmt := top 43
theorem sc_drop : FnScope ["film", "given", "i"] ["film", "given"] (C8.fnScope s_drop) := C8.fnScope_by (by decide +kernel)
/-- box: 0 film, 1 given, 2 i, 3 number, 4 frame, 5 cells -/
abbrev s_box : Stmt := top 44
theorem sc_box : FnScope ["film", "given", "i", "number", "frame", "cells"] ["film", "given"] (C8.fnScope s_box) := C8.fnScope_by (by decide +kernel)
/-- ticks: 0 film, 1 given, 2 i, 3 number, 4 frames -/
abbrev s_ticks : Stmt := top 45
theorem sc_ticks : FnScope ["film", "given", "i", "number", "frames"] ["film", "given"] (C8.fnScope s_ticks) := C8.fnScope_by (by decide +kernel)
/-- loop: 0 film, 1 given -/
abbrev s_loop : Stmt := top 46
theorem sc_loop : FnScope ["film", "given"] ["film", "given"] (C8.fnScope s_loop) := C8.fnScope_by (by decide +kernel)
/-- turn: 0 film, 1 given -/
abbrev s_turn : Stmt := top 47
theorem sc_turn : FnScope ["film", "given"] ["film", "given"] (C8.fnScope s_turn) := C8.fnScope_by (by decide +kernel)
/-- together: 0 film, 1 given -/
abbrev s_together : Stmt := top 48
theorem sc_together : FnScope ["film", "given"] ["film", "given"] (C8.fnScope s_together) := C8.fnScope_by (by decide +kernel)
/-- stretch: 0 film, 1 given, 2 first, 3 count -/
abbrev s_stretch : Stmt := top 49
theorem sc_stretch : FnScope ["film", "given", "first", "count"] ["film", "given"] (C8.fnScope s_stretch) := C8.fnScope_by (by decide +kernel)
/-- bring: 0 film, 1 given, 2 length, 3 frames, 4 frame -/
abbrev s_bring : Stmt := top 50
theorem sc_bring : FnScope ["film", "given", "length", "frames", "frame"] ["film", "given"] (C8.fnScope s_bring) := C8.fnScope_by (by decide +kernel)
/-- read: 0 film, 1 given, 2 width, 3 height, 4 frames -/
abbrev s_read : Stmt := top 51
theorem sc_read : FnScope ["film", "given", "width", "height", "frames"] ["film", "given"] (C8.fnScope s_read) := C8.fnScope_by (by decide +kernel)
/-- undo: 0 film, 1 given -/
abbrev s_undo : Stmt := top 52
theorem sc_undo : FnScope ["film", "given"] ["film", "given"] (C8.fnScope s_undo) := C8.fnScope_by (by decide +kernel)
/-- shown: 0 film, 1 given, 2 i -/
abbrev s_shown : Stmt := top 53
theorem sc_shown : FnScope ["film", "given", "i"] ["film", "given"] (C8.fnScope s_shown) := C8.fnScope_by (by decide +kernel)
/-- between: 0 film, 1 given, 2 at, 3 behind -/
abbrev s_between : Stmt := top 54
theorem sc_between : FnScope ["film", "given", "at", "behind"] ["film", "given"] (C8.fnScope s_between) := C8.fnScope_by (by decide +kernel)
/-- place: 0 film, 1 given -/
abbrev s_place : Stmt := top 55
theorem sc_place : FnScope ["film", "given"] ["film", "given"] (C8.fnScope s_place) := C8.fnScope_by (by decide +kernel)
/-- told: 0 film, 1 given -/
abbrev s_told : Stmt := top 56
theorem sc_told : FnScope ["film", "given"] ["film", "given"] (C8.fnScope s_told) := C8.fnScope_by (by decide +kernel)
/-- listed: 0 film, 1 given, 2 frame -/
abbrev s_listed : Stmt := top 57
theorem sc_listed : FnScope ["film", "given", "frame"] ["film", "given"] (C8.fnScope s_listed) := C8.fnScope_by (by decide +kernel)
/-- end_of_call: 0 calls, 1 at, 2 behind -/
abbrev s_end_of_call : Stmt := top 60
theorem sc_end_of_call : FnScope ["calls", "at", "behind"] ["calls", "at"] (C8.fnScope s_end_of_call) := C8.fnScope_by (by decide +kernel)
/-- answer_calls: 0 film, 1 calls, 2 numbers, 3 at, 4 carry_out, 5 behind, 6 answer -/
abbrev s_answer_calls : Stmt := top 61
theorem sc_answer_calls : FnScope ["film", "calls", "numbers", "at", "carry_out", "behind", "answer"] ["film", "calls"] (C8.fnScope s_answer_calls) := C8.fnScope_by (by decide +kernel)
/-- answers: 0 calls -/
abbrev s_answers : Stmt := top 62
theorem sc_answers : FnScope ["calls"] ["calls"] (C8.fnScope s_answers) := C8.fnScope_by (by decide +kernel)
/-- what the top's names stand for -/
structure Txt (mg : Str → Option Value) : Prop where
  b_any : mg "any" = none
  b_enumerate : mg "enumerate" = none
  b_len : mg "len" = none
  b_list : mg "list" = none
  b_max : mg "max" = none
  b_min : mg "min" = none
  b_range : mg "range" = none
  b_reversed : mg "reversed" = none
  b_sum : mg "sum" = none
  b_zip : mg "zip" = none
  c_MOST_TICKS : ∃ u, mg "MOST_TICKS" = some u ∧ RelV (.int 1000) u
  c_MOST_NUMBER : ∃ u, mg "MOST_NUMBER" = some u ∧ RelV (.int 255) u
  c_STAYS : ∃ u, mg "STAYS" = some u ∧ RelV (.int 0) u
  c_GOES_ROUND : ∃ u, mg "GOES_ROUND" = some u ∧ RelV (.int 1) u
  c_THERE_AND_BACK : ∃ u, mg "THERE_AND_BACK" = some u ∧ RelV (.int 2) u
  c_HEAD : ∃ u, mg "HEAD" = some u ∧ RelV (.int 5) u
  c_MOST_SIDE : ∃ u, mg "MOST_SIDE" = some u ∧ RelV (.int 6) u
  c_MOST_FRAMES : ∃ u, mg "MOST_FRAMES" = some u ∧ RelV (.int 12) u
  c_MOST_UNDONE : ∃ u, mg "MOST_UNDONE" = some u ∧ RelV (.int 8) u
  c_BAD_SIZE : ∃ u, mg "BAD_SIZE" = some u ∧ RelV (.int (-1)) u
  c_NO_FRAME : ∃ u, mg "NO_FRAME" = some u ∧ RelV (.int (-2)) u
  c_BAD_NUMBER : ∃ u, mg "BAD_NUMBER" = some u ∧ RelV (.int (-3)) u
  c_NOTHING_TO_UNDO : ∃ u, mg "NOTHING_TO_UNDO" = some u ∧ RelV (.int (-4)) u
  c_BAD_FRAME_COUNT : ∃ u, mg "BAD_FRAME_COUNT" = some u ∧ RelV (.int (-5)) u
  c_BAD_TICKS : ∃ u, mg "BAD_TICKS" = some u ∧ RelV (.int (-6)) u
-- not a number: CALLS
  c_READ : ∃ u, mg "READ" = some u ∧ RelV (.int 10) u

end FF

set_option Elab.async false
set_option linter.all false
set_option maxRecDepth 100000
set_option maxHeartbeats 2000000
namespace FF
open PySem PySem.Spec PyProof.Rows L2 Evl

section
variable {P : Program} {w : World} {K : PySem.W.Frag} {mg : Str → Option Value} {base : Heap}

theorem flat_rep (n : Nat) (v : V) : (List.replicate n [v]).flatten = List.replicate n v := by
  induction n with
  | zero => rfl
  | succ n ih => rw [List.replicate_succ, List.flatten_cons, ih]; rfl

/-! ### blank_cells, blank_frame -/
def spCells : Sp := fun vs H Q _ => ∃ (wd ht : Nat), vs = [nV wd, nV ht] ∧ wd ≤ 6 ∧ ht ≤ 6 ∧ RetL ((Ie12.blank wd ht).map nV) H Q
theorem ok_blank_cells {f : Addr} {fd : FuncData} (T : Txt mg) (F : C8.Def K mg "blank_cells" s_blank_cells f fd) (b : Binds K fd ["width", "height"] []) : C8.Cal P w K mg base 1 "blank_cells" spCells [] := by
  refine C8.cal0 F b .nil sc_blank_cells (fun vs H Q E h => ?_) (fun cdv A outer s H vs Q E hr h => ?_)
  · obtain ⟨wd, ht, rfl, _⟩ := h; rfl
  · obtain ⟨wd, ht, rfl, hw, hh, k⟩ := h
    refine ⟨_, (pss_one (ps_ret (pe_op op_rep (pe_lst (pa_cons pe_int pa_nil)) (pe_op op_mul (pv 0) (pv 1))))), ?_⟩
    have hm : wd * ht ≤ 36 := Nat.le_trans (Nat.mul_le_mul hw hh) (by decide)
    refine s_retL (el_is (ys := (Ie12.blank wd ht).map nV) (el_rep (xs := [.int 0]) (k := wd * ht) (el_lst (ea_cons ev_c ea_nil) (by decide)) (ev_op (ev_var (v := nV wd) rfl) (ev_var (v := nV ht) rfl) (rv_mulN (by omega))) (by simp; omega) (by omega)) ?_) k
    rw [flat_rep]
    unfold Ie12.blank
    rw [List.map_replicate]
    rfl
def spBlank : Sp := fun vs H Q _ => ∃ (S : Addr → Prop) (wd ht : Nat), vs = [nV wd, nV ht] ∧ Kn S H ∧ wd ≤ 6 ∧ ht ≤ 6 ∧ ∀ p H2, H p = none → Ex H H2 → FrAt S H2 p ⟨Ie12.blank wd ht, 1⟩ → Q (.ref p) H2
theorem ok_blank_frame {f : Addr} {fd : FuncData} (T : Txt mg) (c_blank_cells : C8.Cal P w K mg base 1 "blank_cells" spCells []) (F : C8.Def K mg "blank_frame" s_blank_frame f fd) (b : Binds K fd ["width", "height"] []) : C8.Cal P w K mg base 2 "blank_frame" spBlank [] := by
  refine C8.cal0 F b .nil sc_blank_frame (fun vs H Q E h => ?_) (fun cdv A outer s H vs Q E hr h => ?_)
  · obtain ⟨S, wd, ht, rfl, _⟩ := h; rfl
  · obtain ⟨S, wd, ht, rfl, hk, hw, hh, k⟩ := h
    refine ⟨_, (pss_one (ps_ret (pe_tup (pa_cons pe_int (pa_cons (C8.pe_c c_blank_cells hr (by decide) rfl (pa_cons (pv 0) (pa_cons (pv 1) pa_nil))) pa_nil))))), ?_⟩
    refine eu_tupL (x := nV 1) (xs := (Ie12.blank wd ht).map nV) ev_c (el_call (ea_cons (ev_var (v := nV wd) rfl) (ea_cons (ev_var (v := nV ht) rfl) ea_nil)) fun H1 _ Q q _ => ⟨wd, ht, rfl, hw, hh, q⟩) (Ex.refl H) fun p c H2 hp hc e h1 h2 => ?_
    exact k p H2 hp e ⟨hk.ne hp, c, h1, hk.ne hc, h2⟩

/-! ### all_ticks -/
def spAll : Sp := fun vs H Q _ => ∃ (S : Addr → Prop) (a : Addr) (fs : List Ie12.Frame), vs = [.ref a] ∧ FrsAt S H a fs ∧ fs.length ≤ 1000 ∧ ∀ H2, Ex H H2 → Q (nV (tks fs)) H2
theorem sum_int (l : List Nat) : (l.map fun (n : Nat) => (n : Int)).sum = (l.sum : Int) := by
  induction l with
  | nil => rfl
  | cons x r ih => rw [List.map_cons, List.sum_cons, List.sum_cons, ih]; omega
theorem ok_all_ticks {f : Addr} {fd : FuncData} (T : Txt mg) (F : C8.Def K mg "all_ticks" s_all_ticks f fd) (b : Binds K fd ["frames"] []) : C8.Cal P w K mg base 1 "all_ticks" spAll [] := by
  refine C8.cal0 F b .nil sc_all_ticks (fun vs H Q E h => ?_) (fun cdv A outer s H vs Q E hr h => ?_)
  · obtain ⟨S, a, fs, rfl, _⟩ := h; rfl
  · obtain ⟨S, a, fs, rfl, ⟨ps, rfl, ha, hl, hf⟩, hz, k⟩ := h
    refine ⟨_, (pss_one (ps_ret (pe_callB (cr_sum rfl) (by rfl) T.b_sum (by decide +kernel) (pa_cons (pe_lc (own := [("ticks", 1), ("cells", 2)]) (g := gTup K 2 (gCons (gName 1) (gCons (gName 2) gNil))) (tt := tYes) rfl sc_all_ticks.nd (pi_list (pv 0)) (blkOk_by (N := ["frames", "ticks", "cells"]) (sc := C8.fnScope s_all_ticks) (by decide +kernel)) (fun _ _ _ _ _ => (pg_tup rfl (pgs_cons (pg_name (i := 1) sc_all_ticks.nd rfl (.inl rfl)) (pgs_cons (pg_name (i := 2) sc_all_ticks.nd rfl (.inl rfl)) pgs_nil)))) (fun _ _ _ _ _ => pts_nil) (fun _ _ _ _ _ => (pv 1))) pa_nil)))), ?_⟩
    have e := el_lcG (K := K) (σ := start ["frames", "ticks", "cells"] [V.ref a]) (H := H) (t := tYes) (te := tVar 1) (g := gTup K 2 (gCons (gName 1) (gCons (gName 2) gNil))) (vs := [1, 2]) ps rf (fun p => nV p.2.ticks) (fun _ => true) (ev_var (i := 0) rfl) (sq_of hl) (by rw [List.length_map] at hz; omega) (fun p hp H1 e1 => by
      obtain ⟨_, c, h1, h2⟩ := hf p hp
      exact ⟨_, eg_tup2 (st_of (e1 _ _ h1)), rfl, et_yes, fun _ => ev_var rfl⟩)
    have e2 : (ps.filter fun _ => true).map (fun p => nV p.2.ticks) = ((ps.map (·.2)).map fun x => (x.ticks : Int)).map V.int := by
      rw [List.filter_eq_self.mpr (fun _ _ => rfl), List.map_map, List.map_map]
      rfl
    rw [e2] at e
    refine s_ret (ev_sum e) fun H1 e1 => ?_
    have e3 : ((ps.map (·.2)).map fun x => (x.ticks : Int)).sum = (tks (ps.map (·.2)) : Int) := by
      unfold tks
      rw [← sum_int]
      simp only [List.map_map]
      rfl
    rw [e3]
    exact k H1 e1

/-! ### doubled, without, replaced -/
def spDoubled : Sp := fun vs H Q _ => ∃ (S : Addr → Prop) (a : Addr) (fs : List Ie12.Frame) (i : Nat), vs = [.ref a, nV i] ∧ Kn S H ∧ FrsAt S H a fs ∧ fs.length ≤ 1000 ∧ RetF S (fs.take (i + 1) ++ fs.drop i) H Q
theorem ok_doubled {f : Addr} {fd : FuncData} (T : Txt mg) (F : C8.Def K mg "doubled" s_doubled f fd) (b : Binds K fd ["frames", "i"] []) : C8.Cal P w K mg base 1 "doubled" spDoubled [] := by
  refine C8.cal0 F b .nil sc_doubled (fun vs H Q E h => ?_) (fun cdv A outer s H vs Q E hr h => ?_)
  · obtain ⟨S, a, fs, i, rfl, _⟩ := h; rfl
  · obtain ⟨S, a, fs, i, rfl, hk, ⟨ps, rfl, ha, hl, hf⟩, hz, k⟩ := h
    rw [List.length_map] at hz
    refine ⟨_, (pss_one (ps_ret (pe_op op_cat (pe_slice sl_list (pv 0) po_none (po_some (pe_op op_add (pv 1) pe_int))) (pe_slice sl_list (pv 0) (po_some (pv 1)) po_none)))), ?_⟩
    refine s_retL (el_is (ys := (ps.take (i + 1) ++ ps.drop i).map rf) (el_cat (el_sl (ev_var rfl) eo_none (eo_nat (ev_op (ev_var (v := nV i) rfl) (ev_c (v := nV 1)) rv_addN)) (sq_of hl)) (el_sl (ev_var rfl) (eo_nat (i := i) (ev_var rfl)) eo_none (sq_of hl)) ?_) ?_) fun p H1 hp e1 h1 => k p H1 hp e1 ⟨_, ?_, hk.ne hp, h1, ((hf.take _).append (hf.drop _)).ex e1⟩
    · rw [cut_to, cut_from]; simp; omega
    · rw [cut_to, cut_from, List.map_append, List.map_take, List.map_drop]
    · rw [List.map_append, List.map_take, List.map_drop]
def spWithout : Sp := fun vs H Q _ => ∃ (S : Addr → Prop) (a : Addr) (fs : List Ie12.Frame) (i : Nat), vs = [.ref a, nV i] ∧ Kn S H ∧ FrsAt S H a fs ∧ fs.length ≤ 1000 ∧ RetF S (fs.take i ++ fs.drop (i + 1)) H Q
theorem ok_without {f : Addr} {fd : FuncData} (T : Txt mg) (F : C8.Def K mg "without" s_without f fd) (b : Binds K fd ["frames", "i"] []) : C8.Cal P w K mg base 1 "without" spWithout [] := by
  refine C8.cal0 F b .nil sc_without (fun vs H Q E h => ?_) (fun cdv A outer s H vs Q E hr h => ?_)
  · obtain ⟨S, a, fs, i, rfl, _⟩ := h; rfl
  · obtain ⟨S, a, fs, i, rfl, hk, ⟨ps, rfl, ha, hl, hf⟩, hz, k⟩ := h
    rw [List.length_map] at hz
    refine ⟨_, (pss_one (ps_ret (pe_op op_cat (pe_slice sl_list (pv 0) po_none (po_some (pv 1))) (pe_slice sl_list (pv 0) (po_some (pe_op op_add (pv 1) pe_int)) po_none)))), ?_⟩
    refine s_retL (el_is (ys := (ps.take i ++ ps.drop (i + 1)).map rf) (el_cat (el_sl (ev_var rfl) eo_none (eo_nat (i := i) (ev_var rfl)) (sq_of hl)) (el_sl (ev_var rfl) (eo_nat (ev_op (ev_var (v := nV i) rfl) (ev_c (v := nV 1)) rv_addN)) eo_none (sq_of hl)) ?_) ?_) fun p H1 hp e1 h1 => k p H1 hp e1 ⟨_, ?_, hk.ne hp, h1, ((hf.take _).append (hf.drop _)).ex e1⟩
    · rw [cut_to, cut_from]; simp; omega
    · rw [cut_to, cut_from, List.map_append, List.map_take, List.map_drop]
    · rw [List.map_append, List.map_take, List.map_drop]
def spReplaced : Sp := fun vs H Q _ => ∃ (S : Addr → Prop) (a : Addr) (fs : List Ie12.Frame) (i : Nat) (t : Addr) (x : Ie12.Frame), vs = [.ref a, nV i, .ref t] ∧ Kn S H ∧ FrsAt S H a fs ∧ FrAt S H t x ∧ fs.length ≤ 1000 ∧ RetF S (fs.take i ++ [x] ++ fs.drop (i + 1)) H Q
theorem ok_replaced {f : Addr} {fd : FuncData} (T : Txt mg) (F : C8.Def K mg "replaced" s_replaced f fd) (b : Binds K fd ["frames", "i", "frame"] []) : C8.Cal P w K mg base 1 "replaced" spReplaced [] := by
  refine C8.cal0 F b .nil sc_replaced (fun vs H Q E h => ?_) (fun cdv A outer s H vs Q E hr h => ?_)
  · obtain ⟨S, a, fs, i, t, x, rfl, _⟩ := h; rfl
  · obtain ⟨S, a, fs, i, t, x, rfl, hk, ⟨ps, rfl, ha, hl, hf⟩, hx, hz, k⟩ := h
    rw [List.length_map] at hz
    refine ⟨_, (pss_one (ps_ret (pe_op op_cat (pe_op op_cat (pe_slice sl_list (pv 0) po_none (po_some (pv 1))) (pe_lst (pa_cons (pv 2) pa_nil))) (pe_slice sl_list (pv 0) (po_some (pe_op op_add (pv 1) pe_int)) po_none)))), ?_⟩
    refine s_retL (el_is (ys := (ps.take i ++ [(t, x)] ++ ps.drop (i + 1)).map rf) (el_cat (el_cat (el_sl (ev_var rfl) eo_none (eo_nat (i := i) (ev_var rfl)) (sq_of hl)) (el_lst (ea_cons (ev_var (v := .ref t) rfl) ea_nil) ?_) ?_) (el_sl (ev_var rfl) (eo_nat (ev_op (ev_var (v := nV i) rfl) (ev_c (v := nV 1)) rv_addN)) eo_none (sq_of hl)) ?_) ?_) fun p H1 hp e1 h1 => k p H1 hp e1 ⟨_, ?_, hk.ne hp, h1, (((hf.take _).append (.one hx)).append (hf.drop _)).ex e1⟩
    · simp
    · rw [cut_to]; simp; omega
    · rw [cut_to, cut_from]; simp; omega
    · rw [cut_to, cut_from, List.map_append, List.map_append, List.map_take, List.map_drop]; rfl
    · rw [List.map_append, List.map_append, List.map_take, List.map_drop]; rfl

/-! ### in_box, filled -/
def spInBox (K : PySem.W.Frag) : Sp := fun vs H Q _ => ∃ (a : Addr) (x y u v c r : Nat), vs = [.ref a, nV c, nV r] ∧ SqL K H a [nV x, nV y, nV u, nV v] ∧ ∀ H2, Ex H H2 → Q (.bl (inB x y u v c r)) H2
theorem ok_in_box {f : Addr} {fd : FuncData} (T : Txt mg) (F : C8.Def K mg "in_box" s_in_box f fd) (b : Binds K fd ["box", "column", "row"] []) : C8.Cal P w K mg base 1 "in_box" (spInBox K) [] := by
  refine C8.cal0 F b .nil sc_in_box (fun vs H Q E h => ?_) (fun cdv A outer s H vs Q E hr h => ?_)
  · obtain ⟨a, x, y, u, v, c, r, rfl, _⟩ := h; rfl
  · obtain ⟨a, x, y, u, v, c, r, rfl, hl, k⟩ := h
    refine ⟨_, (pss_one (ps_ret (pe_and (pe_chain op_le op_lt (pe_ix ix_list (pv 0) pe_int (fun _ _ => rfl)) (pv 1) (pe_op op_add (pe_ix ix_list (pv 0) pe_int (fun _ _ => rfl)) (pe_ix ix_list (pv 0) pe_int (fun _ _ => rfl)))) (pe_one (pe_chain op_le op_lt (pe_ix ix_list (pv 0) pe_int (fun _ _ => rfl)) (pv 2) (pe_op op_add (pe_ix ix_list (pv 0) pe_int (fun _ _ => rfl)) (pe_ix ix_list (pv 0) pe_int (fun _ _ => rfl)))))))), ?_⟩
    have ix : ∀ (j : Nat) (n : Nat), [nV x, nV y, nV u, nV v][j]? = some (nV n) → Ev (tOp (rIxL K) (tVar 0) (tC (nV j))) (start ["box", "column", "row"] [V.ref a, nV c, nV r]) H (nV n) := fun j n h => ev_op (ev_var rfl) ev_c (rv_ixLN hl h)
    refine s_ret (ev_andV (ev_chain (ix 0 x rfl) (ev_var (v := nV c) rfl) rv_leN fun _ => ⟨ev_op (ix 0 x rfl) (ix 2 u rfl) rv_addN, rv_ltN⟩) fun _ => ev_chain (ix 1 y rfl) (ev_var (v := nV r) rfl) rv_leN fun _ => ⟨ev_op (ix 1 y rfl) (ix 3 v rfl) rv_addN, rv_ltN⟩) k
def fill (wd x y u v n : Nat) (cs : List Nat) : List Nat := (List.range cs.length).map fun c => if inB x y u v (c % wd) (c / wd) then n else cs.getD c 0
theorem fill_eq (wd x y u v n : Nat) (cs : List Nat) : fill wd x y u v n cs = cs.zipIdx.map (fun (q : Nat × Nat) => if Ie12.inBox wd x y u v q.2 then n else q.1) := by
  apply List.ext_getElem?
  intro i
  unfold fill
  rw [List.getElem?_map, List.getElem?_map, List.getElem?_zipIdx]
  by_cases h : i < cs.length
  · rw [List.getElem?_range h, List.getElem?_eq_getElem h]
    show some _ = some _
    have e : Ie12.inBox wd x y u v (0 + i) = inB x y u v (i % wd) (i / wd) := by
      unfold Ie12.inBox inB
      rw [Nat.zero_add, Bool.and_assoc]
    dsimp only
    rw [e, List.getD_eq_getElem?_getD, List.getElem?_eq_getElem h]
    rfl
  · rw [List.getElem?_eq_none (by rw [List.length_range]; omega), List.getElem?_eq_none (by omega)]
    rfl
def spFilled (K : PySem.W.Frag) : Sp := fun vs H Q _ => ∃ (c g : Addr) (cs : List Nat) (wd x y u v n : Nat), vs = [.ref c, nV wd, .ref g, nV n] ∧ H c = some (.lst (cs.map nV)) ∧ SqL K H g [nV x, nV y, nV u, nV v] ∧ cs.length ≤ 1000 ∧ 1 ≤ wd ∧ wd ≤ 6 ∧
  ∀ p H2, H p = none → Ex H H2 → H2 p = some (.lst ((fill wd x y u v n cs).map nV)) → Q (.ref p) H2
theorem ok_filled {f : Addr} {fd : FuncData} (T : Txt mg) (c_in_box : C8.Cal P w K mg base 1 "in_box" (spInBox K) []) (F : C8.Def K mg "filled" s_filled f fd) (b : Binds K fd ["cells", "width", "box", "number"] []) : C8.Cal P w K mg base 2 "filled" (spFilled K) [] := by
  refine C8.cal0 F b .nil sc_filled (fun vs H Q E h => ?_) (fun cdv A outer s H vs Q E hr h => ?_)
  · obtain ⟨c, g, cs, wd, x, y, u, v, n, rfl, _⟩ := h; rfl
  · obtain ⟨c, g, cs, wd, x, y, u, v, n, rfl, hc, hg, hz, hw, hw6, k⟩ := h
    refine ⟨_, (pss_one (ps_ret (pe_lc (own := [("c", 4), ("cell", 5)]) (g := gTup K 2 (gCons (gName 4) (gCons (gName 5) gNil))) (tt := tYes) rfl sc_filled.nd (pi_enum (by rfl) T.b_enumerate (pa_cons (pv 0) pa_nil)) (blkOk_by (N := ["cells", "width", "box", "number", "c", "cell"]) (sc := C8.fnScope s_filled) (by decide +kernel)) (fun _ _ _ _ _ => (pg_tup rfl (pgs_cons (pg_name (i := 4) sc_filled.nd rfl (.inl rfl)) (pgs_cons (pg_name (i := 5) sc_filled.nd rfl (.inl rfl)) pgs_nil)))) (fun _ _ _ _ _ => pts_nil) (fun _ _ _ _ _ => (pe_ifExp (pt_val (C8.pe_c c_in_box hr (by decide) rfl (pa_cons (pv 2) (pa_cons (pe_op op_modN (pv 4) (pv 1)) (pa_cons (pe_op op_fdivN (pv 4) (pv 1)) pa_nil))))) (pv 3) (pv 5)))))), ?_⟩
    refine s_retL (el_is (ys := (fill wd x y u v n cs).map nV) (el_lcE (xs := cs.map nV) (fun i => nV (if inB x y u v (i % wd) (i / wd) then n else cs.getD i 0)) (ea_cons (ev_var rfl) ea_nil) (sq_of hc) ?_ ?_) ?_) k
    · rw [List.length_map]; omega
    · intro i z p H1 hi e1 hp
      rw [List.getElem?_map] at hi
      have hz' : z = nV (cs.getD i 0) := by
        rw [List.getD_eq_getElem?_getD]
        cases h : cs[i]? with
        | none => rw [h] at hi; cases hi
        | some q => rw [h] at hi; exact (Option.some.inj hi).symm
      subst hz'
      refine ⟨_, eg_tup2 hp, rfl, et_yes, ev_if (b := inB x y u v (i % wd) (i / wd)) (et_B (ev_call (ea_cons (ev_var (v := .ref g) rfl) (ea_cons (ev_op (ev_var (v := nV i) rfl) (ev_var (v := nV wd) rfl) (rv_modN (by omega))) (ea_cons (ev_op (ev_var (v := nV i) rfl) (ev_var (v := nV wd) rfl) (rv_divN (by omega) (by omega))) ea_nil))) ?_)) (fun hb => ?_) fun hb => ?_⟩
      · exact fun H2 e2 Q q _ => ⟨g, x, y, u, v, _, _, rfl, ex_l (e1.trans e2) hg, q⟩
      · rw [hb]; exact ev_var rfl
      · rw [hb]; exact ev_var rfl
    · rw [List.length_map]
      unfold fill
      rw [List.map_map]
      rfl

/-! ### put_together -/
def With (S : Addr → Prop) (l : Addr) : Addr → Prop := fun b => S b ∨ b = l
def spTogether : Sp := fun vs H Q _ => ∃ (S : Addr → Prop) (a : Addr) (fs : List Ie12.Frame), vs = [.ref a] ∧ Kn S H ∧ FrsAt S H a fs ∧ fs.length ≤ 1000 ∧ RetF S (Ie12.together fs) H Q
theorem snoc_or {α : Type} (l : List α) : l = [] ∨ ∃ r x, l = r ++ [x] := by
  rcases List.eq_nil_or_concat l with h | ⟨r, x, h⟩
  · exact .inl h
  · exact .inr ⟨r, x, by rw [h, List.concat_eq_append]⟩
theorem ok_put_together {f : Addr} {fd : FuncData} (T : Txt mg) (F : C8.Def K mg "put_together" s_put_together f fd) (b : Binds K fd ["frames"] []) : C8.Cal P w K mg base 1 "put_together" spTogether [] := by
  refine C8.cal0 F b .nil sc_put_together (fun vs H Q E h => ?_) (fun cdv A outer s H vs Q E hr h => ?_)
  · obtain ⟨S, a, fs, rfl, _⟩ := h; rfl
  · obtain ⟨S, a, fs, rfl, hk, ⟨ps, rfl, ha, hl, hf⟩, hz, k⟩ := h
    rw [List.length_map] at hz
    refine ⟨_, (pss_cons (ps_set (i := 1) sc_put_together.nd rfl (.inl rfl) (pe_lst pa_nil))
      (pss_cons (ps_for PassesOwn.never rfl (pi_list (pv 0)) (pg_tup rfl (pgs_cons (pg_name (i := 2) sc_put_together.nd rfl (.inl rfl)) (pgs_cons (pg_name (i := 3) sc_put_together.nd rfl (.inl rfl)) pgs_nil)))
        (pss_one (ps_if (PW.pt (pw_and (pt_cmpR op_gt (pe_callB call_len_seq (by rfl) T.b_len PySem.boot_len (pa_cons (pv 1) pa_nil)) pe_int (nomark _)) (pw_and1 (pt_cmpR (op_eqD hr.units) (pe_ix ix_tup (pe_ix ix_list (pv 1) (pe_un un_neg pe_int) (fun _ _ => rfl)) pe_int (fun _ _ => rfl)) (pv 3) (nomark _)))))
          (pss_one (ps_asg (pe_tup (pa_cons (pe_op op_add (pe_ix ix_tup (pe_ix ix_list (pv 1) (pe_un un_neg pe_int) (fun _ _ => rfl)) pe_int (fun _ _ => rfl)) (pv 2)) (pa_cons (pv 3) pa_nil))) (pg_sub (pv 1) (pe_un un_neg pe_int) set_list)))
          (pss_one (ps_expr (pe_bm PySem.F.plainAttrs_list PySem.F.slot_list_append PySem.F.type_list_append mt_append (pv 1) (pa_cons (pe_tup (pa_cons (pv 2) (pa_cons (pv 3) pa_nil))) pa_nil)))))))
      (pss_one (ps_ret (pv 1))))), ?_⟩
    refine q_asgL (el_lst ea_nil (by decide)) fun l H1 nl e1 h1 => ?_
    have hf1 : FrsOf (With S l) H ps := hf.go ⟨fun b o h _ => h, fun b s => s.elim .inl fun e => .inr (by rw [e]; exact nl)⟩
    refine q_forL (xs := ps.map rf) (ev_var rfl) (sq_of (e1 _ _ hl)) (fun i σ' H' => ∃ y2 y3 qs, σ' = [some (.ref a), some (.ref l), y2, y3] ∧ Ex H H' ∧ H' l = some (.lst (qs.map rf)) ∧ qs.map (·.2) = Ie12.together ((ps.map (·.2)).take i) ∧ FrsOf (With S l) H' qs)
      (fun H2 e2 => ⟨none, none, [], rfl, e1.trans e2, e2 _ _ h1, rfl, fun p hp => by cases hp⟩) (fun i σ' H' _ hP => ?_) (fun i x σ' H' hi hP => ?_) (fun σ' H' hP => ?_)
    · obtain ⟨_, _, _, _, ee, _⟩ := hP
      exact sq_of (ee _ _ hl)
    · obtain ⟨y2, y3, qs, rfl, ee, hq, heq, hfq⟩ := hP
      rw [List.getElem?_map] at hi
      cases hp : ps[i]? with
      | none => rw [hp] at hi; cases hi
      | some p =>
        rw [hp] at hi
        obtain rfl : rf p = x := Option.some.inj hi
        obtain ⟨hnt, c, ht, hc⟩ := hf1 p (List.mem_of_getElem? hp)
        have hlen : qs.length ≤ 1000 := by
          have := congrArg List.length heq
          rw [List.length_map] at this
          rw [this]
          refine Nat.le_trans (together_len _) ?_
          rw [List.length_take, List.length_map]; omega
        have step : Ie12.together ((ps.map (·.2)).take (i + 1)) = join1 (qs.map (·.2)) p.2 := by
          rw [heq, List.take_add_one, List.getElem?_map, hp]
          exact together_snoc _ _
        have hkW : ∀ H2, Ex H' H2 → Kn (With S l) H2 := fun H2 e2 b sb => by
          rcases sb with sb | sb
          · exact hk.ex (ee.trans e2) b sb
          · rw [sb, e2 _ _ hq]; exact fun z => by cases z
        refine eg_tup2 (st_of (ee _ _ ht)) _ ?_
        rcases snoc_or qs with rfl | ⟨rs, q, rfl⟩
        · -- none yet
          refine s_if (b := false) (et_and (a := false) (b := false) (et_test (ev_op (ev_len (xs := []) (ev_var rfl) (sq_of hq)) (ev_c (v := nV 0)) (rv_gtN (a := 0)))) fun z => Bool.noConfusion z) (fun z => Bool.noConfusion z) fun _ H2 e2 => ?_
          refine s_appU (e2 _ _ hq) (ev_var rfl) (eu_tup (ea_cons (ev_var (v := nV p.2.ticks) rfl) (ea_cons (ev_var (v := .ref c) rfl) ea_nil)) (by simp)) (by simp) fun t H3 nt e3 h3 => ?_
          refine ⟨_, _, [(t, p.2)], rfl, (ee.trans (e2.trans e3)).mut nl, upd_same, ?_, FrsOf.one ?_⟩
          · rw [step]; rfl
          · have nl3 : t ≠ l := fun z => by rw [z, e2 _ _ hq] at nt; cases nt
            refine ⟨(hkW H2 e2).ne nt, c, ?_, hc.1, ?_⟩
            · rw [upd_ne nl3]; exact h3
            · rw [upd_ne (ne_of_none hc.2 nl)]; exact (ee.trans (e2.trans e3)) _ _ hc.2
        · have hq' : H' l = some (.lst (rs.map rf ++ [rf q])) := by rw [hq, List.map_append]; rfl
          obtain ⟨hnq, cq, htq, hcq⟩ := hfq q (by simp)
          have htest : ∀ H2, Ex H' H2 → Ev (tOp (rIxL K) (tVar 1) (tUn (rU fun i => .int (-i)) (tC (.int 1)))) [some (.ref a), some (.ref l), some (nV p.2.ticks), some (.ref c)] H2 (.ref q.1) := fun H2 e2 => ev_op (ev_var rfl) ev_neg1 (rv_last (sq_of (e2 _ _ hq')))
          have hfr : FrsOf (With S l) H' rs := hfq.sub fun _ m => List.mem_append_left _ m
          refine s_if (b := decide (q.2.cells = p.2.cells)) (et_is (et_and (a := true) (et_is (et_test (ev_op (ev_len (ev_var rfl) (sq_of hq')) (ev_c (v := nV 0)) (rv_gtN (a := (rs.map rf ++ [rf q]).length)))) (by simp)) fun _ => et_test (ev_op (ev_op (htest H' (Ex.refl H')) (ev_c (v := nV 1)) (rv_ixTN (st_of htq) rfl)) (ev_var (v := .ref c) rfl) (rv_eqL (sq_of hcq.2) (sq_of (ee _ _ hc.2))))) (Bool.true_and _)) (fun hb H2 e2 => ?_) (fun hb H2 e2 => ?_)
          · have hcc : q.2.cells = p.2.cells := of_decide_eq_true hb
            -- left[-1] = (left[-1][0] + ticks, cells)
            refine eu_tup (ea_cons (ev_op (ev_op (htest H2 e2) (ev_c (v := nV 0)) (rv_ixTN (v := nV q.2.ticks) (st_of (e2 _ _ htq)) rfl)) (ev_var (v := nV p.2.ticks) rfl) rv_addN) (ea_cons (ev_var (v := .ref c) rfl) ea_nil)) (by simp) H2 (Ex.refl H2) _ fun t H3 nt e3 h3 => ?_
            refine ⟨_, rfl, ?_⟩
            refine ⟨1, rfl, l, _, _, rs.length, rfl, rfl, e3 _ _ (e2 _ _ hq'), ?_, ?_⟩
            · have := ixN_last (xs := rs.map rf) (v := rf q)
              rw [List.length_map] at this
              exact this
            · have nl3 : t ≠ l := fun z => by rw [z, e2 _ _ hq] at nt; cases nt
              refine ⟨_, _, rs ++ [(t, ⟨p.2.cells, q.2.ticks + p.2.ticks⟩)], rfl, (ee.trans (e2.trans e3)).mut nl, ?_, ?_, FrsOf.append ?_ (FrsOf.one ?_)⟩
              · rw [upd_same, List.map_append, List.set_append_right _ _ (by rw [List.length_map]; exact Nat.le_refl _), List.length_map, Nat.sub_self]
                rfl
              · rw [step, List.map_append, List.map_append]
                refine Eq.symm ((join1_snoc _ _ _).trans ?_)
                rw [if_pos hcc]
                rw [hcc]
                rfl
              · exact hfr.go ⟨fun b o hb ns => by rw [upd_ne (fun z => ns (.inr z))]; exact (e2.trans e3) _ _ hb, fun b sb => .inl sb⟩
              · refine ⟨(hkW H2 e2).ne nt, c, ?_, hc.1, ?_⟩
                · rw [upd_ne nl3]; exact h3
                · rw [upd_ne (ne_of_none hc.2 nl)]; exact (ee.trans (e2.trans e3)) _ _ hc.2
          · have hcc : ¬ q.2.cells = p.2.cells := of_decide_eq_false hb
            refine s_appU (e2 _ _ hq) (ev_var rfl) (eu_tup (ea_cons (ev_var (v := nV p.2.ticks) rfl) (ea_cons (ev_var (v := .ref c) rfl) ea_nil)) (by simp)) (by rw [List.length_map]; omega) fun t H3 nt e3 h3 => ?_
            have nl3 : t ≠ l := fun z => by rw [z, e2 _ _ hq] at nt; cases nt
            refine ⟨_, _, (rs ++ [q]) ++ [(t, p.2)], rfl, (ee.trans (e2.trans e3)).mut nl, ?_, ?_, FrsOf.append ?_ (FrsOf.one ?_)⟩
            · rw [upd_same, List.map_append (l₁ := rs ++ [q])]; rfl
            · rw [step, List.map_append (l₁ := rs ++ [q]), List.map_append]
              refine Eq.symm ((join1_snoc _ _ _).trans ?_)
              rw [if_neg hcc]
              rfl
            · exact hfq.go ⟨fun b o hb ns => by rw [upd_ne (fun z => ns (.inr z))]; exact (e2.trans e3) _ _ hb, fun b sb => .inl sb⟩
            · refine ⟨(hkW H2 e2).ne nt, c, ?_, hc.1, ?_⟩
              · rw [upd_ne nl3]; exact h3
              · rw [upd_ne (ne_of_none hc.2 nl)]; exact (ee.trans (e2.trans e3)) _ _ hc.2
    · obtain ⟨y2, y3, qs, rfl, ee, hq, heq, hfq⟩ := hP
      rw [List.length_map, List.take_of_length_le (by rw [List.length_map]; exact Nat.le_refl _)] at heq
      exact s_ret (ev_var rfl) fun H2 e2 => k l H2 nl (ee.trans e2) ⟨qs, heq, hk.ne nl, e2 _ _ hq, (hfq.go ⟨fun b o h _ => h, fun b sb => .inl (.inl sb)⟩).ex e2⟩

/-! ### cut_out -/
def spCut : Sp := fun vs H Q _ => ∃ (S : Addr → Prop) (a : Addr) (fs : List Ie12.Frame) (m n : Nat), vs = [.ref a, nV m, nV n] ∧ Kn S H ∧ FrsAt S H a fs ∧ fs.length ≤ 1000 ∧ RetF S (cut m (m + n) 0 fs) H Q
theorem ok_cut_out {f : Addr} {fd : FuncData} (T : Txt mg) (F : C8.Def K mg "cut_out" s_cut_out f fd) (b : Binds K fd ["frames", "first", "count"] []) : C8.Cal P w K mg base 1 "cut_out" spCut [] := by
  refine C8.cal0 F b .nil sc_cut_out (fun vs H Q E h => ?_) (fun cdv A outer s H vs Q E hr h => ?_)
  · obtain ⟨S, a, fs, m, n, rfl, _⟩ := h; rfl
  · obtain ⟨S, a, fs, m, n, rfl, hk, ⟨ps, rfl, ha, hl, hf⟩, hz, k⟩ := h
    rw [List.length_map] at hz
    refine ⟨_, (pss_cons (ps_set (i := 3) sc_cut_out.nd rfl (.inl rfl) (pe_lst pa_nil))
      (pss_cons (ps_set (i := 4) sc_cut_out.nd rfl (.inl rfl) pe_int)
      (pss_cons (ps_for PassesOwn.never rfl (pi_list (pv 0)) (pg_tup rfl (pgs_cons (pg_name (i := 5) sc_cut_out.nd rfl (.inl rfl)) (pgs_cons (pg_name (i := 6) sc_cut_out.nd rfl (.inl rfl)) pgs_nil)))
        (pss_cons (ps_set (i := 7) sc_cut_out.nd rfl (.inl rfl) (pe_op op_add (pv 4) (pv 5)))
        (pss_cons (ps_set (i := 8) sc_cut_out.nd rfl (.inl rfl) (pe_op op_sub (pe_callB (call_min2 rfl) (by rfl) T.b_min (by decide +kernel) (pa_cons (pv 7) (pa_cons (pe_op op_add (pv 1) (pv 2)) pa_nil))) (pe_callB (call_max2 rfl) (by rfl) T.b_max (by decide +kernel) (pa_cons (pv 4) (pa_cons (pv 1) pa_nil)))))
        (pss_cons (ps_if (pt_cmpR op_gt (pv 8) pe_int (nomark _))
          (pss_one (ps_expr (pe_bm PySem.F.plainAttrs_list PySem.F.slot_list_append PySem.F.type_list_append mt_append (pv 3) (pa_cons (pe_tup (pa_cons (pv 8) (pa_cons (pv 6) pa_nil))) pa_nil))))
          pss_nil)
        (pss_one (ps_set (i := 4) sc_cut_out.nd rfl (.inl rfl) (pv 7)))))))
      (pss_one (ps_ret (pv 3)))))), ?_⟩
    refine q_asgL (el_lst ea_nil (by decide)) fun l H1 nl e1 h1 => ?_
    refine q_asg (v := nV 0) ev_c fun H2 e2 => ?_
    have hf1 : FrsOf (With S l) H ps := hf.go ⟨fun b o h _ => h, fun b s => s.elim .inl fun e => .inr (by rw [e]; exact nl)⟩
    refine q_forL (xs := ps.map rf) (ev_var rfl) (sq_of (e2 _ _ (e1 _ _ hl))) (fun i σ' H' => ∃ y5 y6 y7 y8 qs, σ' = [some (.ref a), some (nV m), some (nV n), some (.ref l), some (nV (tks ((ps.map (·.2)).take i))), y5, y6, y7, y8] ∧ Ex H H' ∧ H' l = some (.lst (qs.map rf)) ∧ qs.map (·.2) = cut m (m + n) 0 ((ps.map (·.2)).take i) ∧ FrsOf (With S l) H' qs)
      (fun H3 e3 => ⟨none, none, none, none, [], rfl, e1.trans (e2.trans e3), e3 _ _ (e2 _ _ h1), rfl, fun p hp => by cases hp⟩) (fun i σ' H' _ hP => ?_) (fun i x σ' H' hi hP => ?_) (fun σ' H' hP => ?_)
    · obtain ⟨_, _, _, _, _, _, ee, _⟩ := hP
      exact sq_of (ee _ _ hl)
    · obtain ⟨y5, y6, y7, y8, qs, rfl, ee, hq, heq, hfq⟩ := hP
      rw [List.getElem?_map] at hi
      cases hp : ps[i]? with
      | none => rw [hp] at hi; cases hi
      | some p =>
        rw [hp] at hi
        obtain rfl : rf p = x := Option.some.inj hi
        obtain ⟨hnt, c, ht, hc⟩ := hf1 p (List.mem_of_getElem? hp)
        have hlen : qs.length ≤ 1000 := by
          have := congrArg List.length heq
          rw [List.length_map] at this
          rw [this]
          refine Nat.le_trans (cut_len _ _) ?_
          rw [List.length_take, List.length_map]; omega
        have etake : (ps.map (·.2)).take (i + 1) = (ps.map (·.2)).take i ++ [p.2] := by
          rw [List.take_add_one, List.getElem?_map, hp]; rfl
        have etks : tks ((ps.map (·.2)).take (i + 1)) = tks ((ps.map (·.2)).take i) + p.2.ticks := by
          rw [etake, tks_append, tks_cons, tks_nil, Nat.add_zero]
        have step : cut m (m + n) 0 ((ps.map (·.2)).take (i + 1)) = qs.map (·.2) ++ cut m (m + n) (tks ((ps.map (·.2)).take i)) [p.2] := by
          rw [etake, cut_append, heq, Nat.zero_add]
        generalize hs : tks ((ps.map (·.2)).take i) = st at *
        have hkW : ∀ H2, Ex H' H2 → Kn (With S l) H2 := fun H2 e2 b sb => by
          rcases sb with sb | sb
          · exact hk.ex (ee.trans e2) b sb
          · rw [sb, e2 _ _ hq]; exact fun z => by cases z
        refine eg_tup2 (st_of (ee _ _ ht)) _ ?_
        refine q_asg (v := nV (st + p.2.ticks)) (ev_op (ev_var (v := nV st) rfl) (ev_var (v := nV p.2.ticks) rfl) rv_addN) fun H3 e3 => ?_
        refine q_asg (v := .int ((min (st + p.2.ticks) (m + n) : Nat) - (max st m : Nat))) (ev_op (ev_minN (ev_var (v := nV (st + p.2.ticks)) rfl) (ev_op (ev_var (v := nV m) rfl) (ev_var (v := nV n) rfl) rv_addN)) (ev_maxN (ev_var (v := nV st) rfl) (ev_var (v := nV m) rfl)) rv_I0) fun H4 e4 => ?_
        have e14 : Ex H' H4 := e3.trans e4
        refine q_when (b := decide (max st m < min (st + p.2.ticks) (m + n))) (et_is (et_test (ev_op (ev_var rfl) (ev_c (v := .int 0)) rv_I0)) (decide_eq_decide.mpr (by omega))) (fun hb H5 e5 => ?_) (fun hb H5 e5 => ?_)
        · have hlt := of_decide_eq_true hb
          have ew : V.int ((min (st + p.2.ticks) (m + n) : Nat) - (max st m : Nat)) = nV (min (st + p.2.ticks) (m + n) - max st m) := congrArg V.int (by omega)
          refine s_appU (e5 _ _ (e14 _ _ hq)) (ev_var rfl) (eu_tup (ea_cons (ev_var rfl) (ea_cons (ev_var (v := .ref c) rfl) ea_nil)) (by simp)) (by rw [List.length_map]; omega) fun t H6 nt e6 h6 => ?_
          have nl3 : t ≠ l := fun z => by rw [z, e5 _ _ (e14 _ _ hq)] at nt; cases nt
          have e16 : Ex H' H6 := (e14.trans e5).trans e6
          refine s_asg (v := nV (st + p.2.ticks)) (ev_var rfl) fun H7 e7 => ?_
          refine ⟨_, _, _, _, qs ++ [(t, ⟨p.2.cells, min (st + p.2.ticks) (m + n) - max st m⟩)], by rw [etks]; rfl, ?_, e7 _ _ ?_, ?_, (FrsOf.append ?_ (FrsOf.one ?_)).ex e7⟩
          · exact ((ee.trans e16).mut nl).trans e7
          · rw [upd_same, List.map_append]; rfl
          · rw [step, List.map_append, cut_cons, if_pos hlt]; rfl
          · exact hfq.go ⟨fun b o hb ns => by rw [upd_ne (fun z => ns (.inr z))]; exact e16 _ _ hb, fun b sb => .inl sb⟩
          · refine ⟨(hkW H5 (e14.trans e5)).ne nt, c, ?_, hc.1, ?_⟩
            · rw [upd_ne nl3, h6, ew]
            · rw [upd_ne (ne_of_none hc.2 nl)]; exact (ee.trans e16) _ _ hc.2
        · have hlt := of_decide_eq_false hb
          refine s_asg (v := nV (st + p.2.ticks)) (ev_var rfl) fun H6 e6 => ?_
          have e16 : Ex H' H6 := (e14.trans e5).trans e6
          refine ⟨_, _, _, _, qs, by rw [etks]; rfl, ee.trans e16, e16 _ _ hq, ?_, hfq.ex e16⟩
          rw [step, cut_cons, if_neg hlt]
          exact (List.append_nil _).symm
    · obtain ⟨y5, y6, y7, y8, qs, rfl, ee, hq, heq, hfq⟩ := hP
      rw [List.length_map, List.take_of_length_le (by rw [List.length_map]; exact Nat.le_refl _)] at heq
      exact s_ret (ev_var rfl) fun H2 e2 => k l H2 nl (ee.trans e2) ⟨qs, heq, hk.ne nl, e2 _ _ hq, (hfq.go ⟨fun b o h _ => h, fun b sb => .inl (.inl sb)⟩).ex e2⟩
end
end FF

set_option Elab.async false
set_option linter.all false
set_option maxRecDepth 100000
set_option maxHeartbeats 2000000
namespace FF
open PySem PySem.Spec PyProof.Rows L2 Evl
/-- the i-th frame of a film: its tuple, its cells -/
theorem FrsAt.at {S : Addr → Prop} {H : Hp} {fa : Addr} {fs : List Ie12.Frame} {i : Nat} {x : Ie12.Frame} (h : FrsAt S H fa fs) (hx : fs[i]? = some x) : ∃ (xs : List V) (t c : Addr), H fa = some (.lst xs) ∧ xs[i]? = some (.ref t) ∧ ¬ S t ∧ H t = some (.tup [nV x.ticks, .ref c]) ∧ Pic S H c x.cells := by
  obtain ⟨ps, e, _, hl, hf⟩ := h
  rw [← e, List.getElem?_map] at hx
  cases hp : ps[i]? with
  | none => rw [hp] at hx; cases hx
  | some p =>
    rw [hp] at hx
    obtain rfl : p.2 = x := Option.some.inj hx
    obtain ⟨h1, c, h2, h3⟩ := hf p (List.mem_of_getElem? hp)
    exact ⟨_, p.1, c, hl, by rw [List.getElem?_map, hp]; rfl, h1, h2, h3⟩
theorem tks_take_le (l : List Ie12.Frame) (i : Nat) : tks (l.take i) ≤ tks l := by
  have e : tks l = tks (l.take i) + tks (l.drop i) := by rw [← tks_append, List.take_append_drop]
  omega
theorem getD_of {l : List Nat} {i n : Nat} (h : l[i]? = some n) : l.getD i 0 = n := by
  rw [List.getD_eq_getElem?_getD, h]
  rfl
theorem nv_at {l : List Nat} {i : Nat} {z : V} (h : (l.map nV)[i]? = some z) : ∃ n, l[i]? = some n ∧ z = nV n := by
  rw [List.getElem?_map] at h
  cases e : l[i]? with
  | none => rw [e] at h; cases h
  | some n => rw [e] at h; exact ⟨n, rfl, (Option.some.inj h).symm⟩
theorem nv_mk {l : List Nat} {i n : Nat} (h : l[i]? = some n) : (l.map nV)[i]? = some (nV n) := by
  rw [List.getElem?_map, h]
  rfl
theorem filter_true {α : Type} (l : List α) : (l.filter fun _ => true) = l := List.filter_eq_self.mpr fun _ _ => rfl

section
variable {P : Program} {w : World} {K : PySem.W.Frag} {mg : Str → Option Value} {base : Heap}
/-! ### nearest, brought -/
def spNear : Sp := fun vs H Q _ => ∃ (n d : Nat), vs = [nV n, nV d] ∧ 1 ≤ d ∧ d ≤ 1000000 ∧ RetV (nV (Ie12.near n d)) H Q
theorem ok_nearest {f : Addr} {fd : FuncData} (T : Txt mg) (F : C8.Def K mg "nearest" s_nearest f fd) (b : Binds K fd ["number", "parts"] []) : C8.Cal P w K mg base 1 "nearest" spNear [] := by
  refine C8.cal0 F b .nil sc_nearest (fun vs H Q E h => ?_) (fun cdv A outer s H vs Q E hr h => ?_)
  · obtain ⟨n, d, rfl, _⟩ := h; rfl
  · obtain ⟨n, d, rfl, h1, h2, k⟩ := h
    refine ⟨_, (pss_one (ps_ret (pe_op op_fdivN (pe_op op_add (pe_op op_mul pe_int (pv 0)) (pv 1)) (pe_op op_mul pe_int (pv 1))))), ?_⟩
    exact s_ret (ev_op (ev_op (ev_op (ev_c (v := nV 2)) (ev_var (v := nV n) rfl) (rv_mulN (by omega))) (ev_var (v := nV d) rfl) rv_addN) (ev_op (ev_c (v := nV 2)) (ev_var (v := nV d) rfl) (rv_mulN (by omega))) (rv_divN (by omega) (by omega))) k
def spBrought : Sp := fun vs H Q _ => ∃ (S : Addr → Prop) (a : Addr) (fs : List Ie12.Frame) (m : Nat), vs = [.ref a, nV m] ∧ Kn S H ∧ FrsAt S H a fs ∧ fs.length ≤ 1000 ∧ 1 ≤ tks fs ∧ tks fs ≤ 1000 ∧ RetF S (brl (tks fs) m fs 0 0) H Q
theorem ok_brought {f : Addr} {fd : FuncData} (T : Txt mg) (c_all_ticks : C8.Cal P w K mg base 1 "all_ticks" spAll []) (c_nearest : C8.Cal P w K mg base 1 "nearest" spNear []) (F : C8.Def K mg "brought" s_brought f fd) (b : Binds K fd ["frames", "length"] []) : C8.Cal P w K mg base 2 "brought" spBrought [] := by
  refine C8.cal0 F b .nil sc_brought (fun vs H Q E h => ?_) (fun cdv A outer s H vs Q E hr h => ?_)
  · obtain ⟨S, a, fs, m, rfl, _⟩ := h; rfl
  · obtain ⟨S, a, fs, m, rfl, hk, hfs, hz, hn1, hn2, k⟩ := h
    obtain ⟨ps, rfl, ha, hl, hf⟩ := id hfs
    refine ⟨_, (pss_cons (ps_set (i := 2) sc_brought.nd rfl (.inl rfl) (C8.pe_c c_all_ticks hr (by decide) rfl (pa_cons (pv 0) pa_nil)))
      (pss_cons (ps_set (i := 3) sc_brought.nd rfl (.inl rfl) (pe_lst pa_nil))
      (pss_cons (ps_set (i := 4) sc_brought.nd rfl (.inl rfl) pe_int)
      (pss_cons (ps_set (i := 5) sc_brought.nd rfl (.inl rfl) pe_int)
      (pss_cons (ps_for PassesOwn.never rfl (pi_list (pv 0)) (pg_tup rfl (pgs_cons (pg_name (i := 6) sc_brought.nd rfl (.inl rfl)) (pgs_cons (pg_name (i := 7) sc_brought.nd rfl (.inl rfl)) pgs_nil)))
        (pss_cons (ps_aug (i := 4) sc_brought.nd rfl (.inl rfl) (pv 6) ip_add)
        (pss_cons (ps_set (i := 8) sc_brought.nd rfl (.inl rfl) (C8.pe_c c_nearest hr (by decide) rfl (pa_cons (pe_op op_mul (pv 4) (pv 1)) (pa_cons (pv 2) pa_nil))))
        (pss_cons (ps_expr (pe_bm PySem.F.plainAttrs_list PySem.F.slot_list_append PySem.F.type_list_append mt_append (pv 3) (pa_cons (pe_tup (pa_cons (pe_op op_sub (pv 8) (pv 5)) (pa_cons (pv 7) pa_nil))) pa_nil)))
        (pss_one (ps_set (i := 5) sc_brought.nd rfl (.inl rfl) (pv 8)))))))
      (pss_one (ps_ret (pv 3)))))))), ?_⟩
    refine q_asg (v := nV (tks (ps.map (·.2)))) (ev_call (ea_cons (ev_var rfl) ea_nil) fun H1 e1 Q q _ => ⟨S, a, _, rfl, hfs.ex e1, hz, q⟩) fun H1 e1 => ?_
    have hle : ∀ i, tks ((ps.map (·.2)).take i) ≤ tks (ps.map (·.2)) := tks_take_le _
    generalize tks (ps.map (·.2)) = N at *
    rw [List.length_map] at hz
    refine q_asgL (el_lst ea_nil (by decide)) fun l H2 nl e2 h2 => ?_
    refine q_asg (v := nV 0) ev_c fun H3 e3 => ?_
    refine q_asg (v := nV 0) ev_c fun H4 e4 => ?_
    have nlH : H l = none := fresh_back e1 nl
    have e14 : Ex H H4 := ((e1.trans e2).trans e3).trans e4
    have z0 : Ie12.near (0 * m) N = 0 := by rw [Nat.zero_mul]; exact near_zero hn1
    have hf1 : FrsOf (With S l) H ps := hf.go ⟨fun b o h _ => h, fun b s => s.elim .inl fun e => .inr (by rw [e]; exact nlH)⟩
    refine q_forL (xs := ps.map rf) (ev_var rfl) (sq_of (e14 _ _ hl)) (fun i σ' H' => ∃ y6 y7 y8 qs, σ' = [some (.ref a), some (nV m), some (nV N), some (.ref l), some (nV (tks ((ps.map (·.2)).take i))), some (nV (Ie12.near (tks ((ps.map (·.2)).take i) * m) N)), y6, y7, y8] ∧ Ex H H' ∧ H' l = some (.lst (qs.map rf)) ∧ qs.map (·.2) = brl N m ((ps.map (·.2)).take i) 0 0 ∧ FrsOf (With S l) H' qs)
      (fun H5 e5 => ⟨none, none, none, [], ?_, e14.trans e5, (e3.trans (e4.trans e5)) _ _ h2, rfl, fun p hp => by cases hp⟩) (fun i σ' H' _ hP => ?_) (fun i x σ' H' hi hP => ?_) (fun σ' H' hP => ?_)
    · rw [List.take_zero, tks_nil, z0]; rfl
    · obtain ⟨_, _, _, _, _, ee, _⟩ := hP
      exact sq_of (ee _ _ hl)
    · obtain ⟨y6, y7, y8, qs, rfl, ee, hq, heq, hfq⟩ := hP
      rw [List.getElem?_map] at hi
      cases hp : ps[i]? with
      | none => rw [hp] at hi; cases hi
      | some p =>
        rw [hp] at hi
        obtain rfl : rf p = x := Option.some.inj hi
        obtain ⟨hnt, c, ht, hc⟩ := hf1 p (List.mem_of_getElem? hp)
        have hlen : qs.length ≤ 1000 := by
          have := congrArg List.length heq
          rw [List.length_map, brl_len, List.length_take, List.length_map] at this
          omega
        have etake : (ps.map (·.2)).take (i + 1) = (ps.map (·.2)).take i ++ [p.2] := by
          rw [List.take_add_one, List.getElem?_map, hp]; rfl
        have etks : tks ((ps.map (·.2)).take (i + 1)) = tks ((ps.map (·.2)).take i) + p.2.ticks := by
          rw [etake, tks_append, tks_cons, tks_nil, Nat.add_zero]
        have step : brl N m ((ps.map (·.2)).take (i + 1)) 0 0 = qs.map (·.2) ++ [⟨p.2.cells, Ie12.near ((tks ((ps.map (·.2)).take i) + p.2.ticks) * m) N - Ie12.near (tks ((ps.map (·.2)).take i) * m) N⟩] := by
          have := brl_snoc N m p.2 ((ps.map (·.2)).take i) 0
          rw [z0, Nat.zero_add] at this
          rw [etake, this, heq]
        have hbig := hle (i + 1)
        rw [etks] at hbig
        rw [etks]
        generalize tks ((ps.map (·.2)).take i) = st at *
        have hmono : Ie12.near (st * m) N ≤ Ie12.near ((st + p.2.ticks) * m) N := near_mono (Nat.mul_le_mul_right _ (Nat.le_add_right _ _))
        have hkW : ∀ H2, Ex H' H2 → Kn (With S l) H2 := fun H2 e2 b sb => by
          rcases sb with sb | sb
          · exact hk.ex (ee.trans e2) b sb
          · rw [sb, e2 _ _ hq]; exact fun z => by cases z
        refine eg_tup2 (st_of (ee _ _ ht)) _ ?_
        refine q_addN (a := st) (b := p.2.ticks) rfl (ev_var rfl) fun H5 e5 => ?_
        refine q_asg (v := nV (Ie12.near ((st + p.2.ticks) * m) N)) (ev_call (ea_cons (ev_op (ev_var (v := nV (st + p.2.ticks)) rfl) (ev_var (v := nV m) rfl) (rv_mulN (by omega))) (ea_cons (ev_var (v := nV N) rfl) ea_nil)) fun H6 e6 Q q _ => ⟨_, N, rfl, hn1, by omega, q⟩) fun H6 e6 => ?_
        have e16 : Ex H' H6 := e5.trans e6
        refine q_appU (e16 _ _ hq) (ev_var rfl) (eu_tup (ea_cons (ev_op (ev_var (v := nV (Ie12.near ((st + p.2.ticks) * m) N)) rfl) (ev_var (v := nV (Ie12.near (st * m) N)) rfl) (rv_subN hmono)) (ea_cons (ev_var (v := .ref c) rfl) ea_nil)) (by simp)) (by rw [List.length_map]; omega) fun t H7 nt e7 h7 => ?_
        refine s_asg (v := nV (Ie12.near ((st + p.2.ticks) * m) N)) (ev_var rfl) fun H8 e8 => ?_
        have nl3 : t ≠ l := fun z => by rw [z, e16 _ _ hq] at nt; cases nt
        have e17 : Ex H' H7 := e16.trans e7
        refine ⟨_, _, _, qs ++ [(t, ⟨p.2.cells, Ie12.near ((st + p.2.ticks) * m) N - Ie12.near (st * m) N⟩)], rfl, ((ee.trans e17).mut nlH).trans e8, e8 _ _ ?_, ?_, (FrsOf.append ?_ (FrsOf.one ?_)).ex e8⟩
        · rw [upd_same, List.map_append]; rfl
        · rw [step, List.map_append]; rfl
        · exact hfq.go ⟨fun b o hb ns => by rw [upd_ne (fun z => ns (.inr z))]; exact e17 _ _ hb, fun b sb => .inl sb⟩
        · refine ⟨(hkW H6 e16).ne nt, c, ?_, hc.1, ?_⟩
          · rw [upd_ne nl3]; exact h7
          · rw [upd_ne (ne_of_none hc.2 nlH)]; exact (ee.trans e17) _ _ hc.2
    · obtain ⟨y6, y7, y8, qs, rfl, ee, hq, heq, hfq⟩ := hP
      rw [List.length_map, List.take_of_length_le (by rw [List.length_map]; exact Nat.le_refl _)] at heq
      exact s_ret (ev_var rfl) fun H2 e2 => k l H2 nlH (ee.trans e2) ⟨qs, heq, hk.ne nlH, e2 _ _ hq, (hfq.go ⟨fun b o h _ => h, fun b sb => .inl (.inl sb)⟩).ex e2⟩

/-! ### own_tick, place_of, frame_behind -/
def spOwn : Sp := fun vs H Q _ => ∃ (t n g : Nat), vs = [nV t, nV n, nV g] ∧ 1 ≤ n ∧ n ≤ 1000 ∧ RetV (nV (ownT t n g)) H Q
theorem ok_own_tick {f : Addr} {fd : FuncData} (T : Txt mg) (F : C8.Def K mg "own_tick" s_own_tick f fd) (b : Binds K fd ["tick", "length", "goes_on"] []) : C8.Cal P w K mg base 1 "own_tick" spOwn [] := by
  refine C8.cal0 F b .nil sc_own_tick (fun vs H Q E h => ?_) (fun cdv A outer s H vs Q E hr h => ?_)
  · obtain ⟨t, n, g, rfl, _⟩ := h; rfl
  · obtain ⟨t, n, g, rfl, h1, h2, k⟩ := h
    unfold ownT at k
    refine ⟨_, (pss_cons (ps_if (pt_cmpR op_eq (pv 2) (C8.pe_gc rfl T.c_GOES_ROUND) (nomark _))
        (pss_one (ps_ret (pe_op op_modN (pv 0) (pv 1))))
        pss_nil)
      (pss_cons (ps_if (pt_cmpR op_eq (pv 2) (C8.pe_gc rfl T.c_THERE_AND_BACK) (nomark _))
        (pss_cons (ps_set (i := 3) sc_own_tick.nd rfl (.inl rfl) (pe_op op_modN (pv 0) (pe_op op_mul pe_int (pv 1))))
        (pss_one (ps_ret (pe_callB (call_min2 rfl) (by rfl) T.b_min (by decide +kernel) (pa_cons (pv 3) (pa_cons (pe_op op_sub (pe_op op_sub (pe_op op_mul pe_int (pv 1)) pe_int) (pv 3)) pa_nil))))))
        pss_nil)
      (pss_one (ps_ret (pe_callB (call_min2 rfl) (by rfl) T.b_min (by decide +kernel) (pa_cons (pv 0) (pa_cons (pe_op op_sub (pv 1) pe_int) pa_nil))))))), ?_⟩
    refine q_when (et_test (ev_op (ev_var (v := nV g) rfl) (ev_c (v := nV 1)) rv_eqN)) (fun hb H1 e1 => ?_) (fun hb H1 e1 => ?_)
    · rw [if_pos (of_decide_eq_true hb)] at k
      exact s_ret (ev_op (ev_var (v := nV t) rfl) (ev_var (v := nV n) rfl) (rv_modN (by omega))) fun H2 e2 => k H2 (e1.trans e2)
    · rw [if_neg (of_decide_eq_false hb)] at k
      refine q_when (et_test (ev_op (ev_var (v := nV g) rfl) (ev_c (v := nV 2)) rv_eqN)) (fun hb2 H2 e2 => ?_) (fun hb2 H2 e2 => ?_)
      · rw [if_pos (of_decide_eq_true hb2)] at k
        have hlt := Nat.mod_lt t (show 0 < 2 * n by omega)
        refine q_asg (v := nV (t % (2 * n))) (ev_op (ev_var (v := nV t) rfl) (ev_op (ev_c (v := nV 2)) (ev_var (v := nV n) rfl) (rv_mulN (by omega))) (rv_modN (by omega))) fun H3 e3 => ?_
        exact s_ret (ev_minN (ev_var (v := nV (t % (2 * n))) rfl) (ev_op (ev_op (ev_op (ev_c (v := nV 2)) (ev_var (v := nV n) rfl) (rv_mulN (by omega))) (ev_c (v := nV 1)) (rv_subN (by omega))) (ev_var (v := nV (t % (2 * n))) rfl) (rv_subN (by omega)))) fun H4 e4 => k H4 (((e1.trans e2).trans e3).trans e4)
      · rw [if_neg (of_decide_eq_false hb2)] at k
        exact s_ret (ev_minN (ev_var (v := nV t) rfl) (ev_op (ev_var (v := nV n) rfl) (ev_c (v := nV 1)) (rv_subN (by omega)))) fun H3 e3 => k H3 ((e1.trans e2).trans e3)
def spPlace : Sp := fun vs H Q _ => ∃ (S : Addr → Prop) (a : Addr) (fs : List Ie12.Frame) (t : Nat), vs = [.ref a, nV t] ∧ FrsAt S H a fs ∧ t < tks fs ∧ RetU [nV (Ie12.placeIn fs 0 t).1, nV (Ie12.placeIn fs 0 t).2] H Q
theorem ok_place_of {f : Addr} {fd : FuncData} (T : Txt mg) (F : C8.Def K mg "place_of" s_place_of f fd) (b : Binds K fd ["frames", "tick"] []) : C8.Cal P w K mg base 1 "place_of" spPlace [] := by
  refine C8.cal0 F b .nil sc_place_of (fun vs H Q E h => ?_) (fun cdv A outer s H vs Q E hr h => ?_)
  · obtain ⟨S, a, fs, t, rfl, _⟩ := h; rfl
  · obtain ⟨S, a, fs, t, rfl, hfs, ht, k⟩ := h
    refine ⟨_, (pss_cons (ps_set (i := 2) sc_place_of.nd rfl (.inl rfl) pe_int)
      (pss_cons (ps_set (i := 3) sc_place_of.nd rfl (.inl rfl) (pv 1))
      (pss_cons (ps_while PassesOwn.never (pt_cmpR op_ge (pv 3) (pe_ix ix_tup (pe_ix ix_list (pv 0) (pv 2) (fun _ _ => rfl)) pe_int (fun _ _ => rfl)) (nomark _))
        (pss_cons (ps_aug (i := 3) sc_place_of.nd rfl (.inl rfl) (pe_ix ix_tup (pe_ix ix_list (pv 0) (pv 2) (fun _ _ => rfl)) pe_int (fun _ _ => rfl)) ip_sub)
        (pss_one (ps_aug (i := 2) sc_place_of.nd rfl (.inl rfl) pe_int ip_add))))
      (pss_one (ps_ret (pe_tup (pa_cons (pv 2) (pa_cons (pv 3) pa_nil)))))))), ?_⟩
    refine q_asg (v := nV 0) ev_c fun H1 e1 => ?_
    refine q_asg (v := nV t) (ev_var rfl) fun H2 e2 => ?_
    refine q_while (fun m σ' H' => ∃ i n, m = fs.length - i ∧ σ' = [some (.ref a), some (nV t), some (nV i), some (nV n)] ∧ Ex H H' ∧ Ie12.placeIn fs 0 t = Ie12.placeIn (fs.drop i) i n ∧ n < tks (fs.drop i))
      fs.length ⟨0, t, rfl, rfl, e1.trans e2, rfl, ht⟩ (fun m σ' H' hW => ?_)
    obtain ⟨i, n, rfl, rfl, ee, hpl, hlt⟩ := hW
    have hi : i < fs.length := by
      by_cases h : i < fs.length
      · exact h
      · rw [List.drop_eq_nil_of_le (by omega), tks_nil] at hlt; omega
    obtain ⟨x, hx⟩ : ∃ x, fs[i]? = some x := ⟨_, List.getElem?_eq_getElem hi⟩
    have hd : fs.drop i = x :: fs.drop (i + 1) := by
      rw [List.drop_eq_getElem_cons hi]
      congr 1
      rw [List.getElem?_eq_getElem hi] at hx
      exact Option.some.inj hx
    rw [hd] at hpl hlt
    obtain ⟨xs, tp, c, hfa, hxs, _, htt, _⟩ := (hfs.ex ee).at hx
    have ix : ∀ {H3}, Ex H' H3 → Ev (tOp (rIxT K) (tOp (rIxL K) (tVar 0) (tVar 2)) (tC (.int 0))) [some (.ref a), some (nV t), some (nV i), some (nV n)] H3 (nV x.ticks) := fun e3 => ev_op (ev_op (ev_var rfl) (ev_var (v := nV i) rfl) (rv_ixLN (sq_of (e3 _ _ hfa)) hxs)) (ev_c (v := nV 0)) (rv_ixTN (st_of (e3 _ _ htt)) rfl)
    refine ⟨decide (x.ticks ≤ n), et_test (ev_op (ev_var (v := nV n) rfl) (ix (Ex.refl H')) rv_geN), fun hb H3 e3 => ?_, fun hb H3 e3 => ?_⟩
    · have hle := of_decide_eq_true hb
      refine ⟨fun σ2 H4 => σ2 = [some (.ref a), some (nV t), some (nV (i + 1)), some (nV (n - x.ticks))] ∧ Ex H H4, fun σ2 H4 hN => ?_, ?_⟩
      · refine ⟨fs.length - (i + 1), by omega, i + 1, n - x.ticks, rfl, hN.1, hN.2, ?_, ?_⟩
        · rw [hpl, placeIn_go hle hlt]
        · rw [tks_cons] at hlt; omega
      · refine q_subN hle rfl (ix e3) fun H4 e4 => ?_
        refine s_addN (a := i) (b := 1) rfl ev_c fun H5 e5 => ⟨rfl, ((ee.trans e3).trans e4).trans e5⟩
    · have hlt2 := of_decide_eq_false hb
      rw [hpl, placeIn_stop (by omega)] at k
      exact s_retU (eu_tup (ea_cons (ev_var (v := nV i) rfl) (ea_cons (ev_var (v := nV n) rfl) ea_nil)) (by simp)) fun p H4 hp e4 h4 => k p H4 (fresh_back (ee.trans e3) hp) ((ee.trans e3).trans e4) h4
def spBehind : Sp := fun vs H Q _ => ∃ (S : Addr → Prop) (a : Addr) (fs : List Ie12.Frame) (i g : Nat), vs = [.ref a, nV i, nV g] ∧ FrsAt S H a fs ∧ RetV (nV (if i + 1 < fs.length then i + 1 else if g = 1 then 0 else i)) H Q
theorem ok_frame_behind {f : Addr} {fd : FuncData} (T : Txt mg) (F : C8.Def K mg "frame_behind" s_frame_behind f fd) (b : Binds K fd ["frames", "i", "goes_on"] []) : C8.Cal P w K mg base 1 "frame_behind" spBehind [] := by
  refine C8.cal0 F b .nil sc_frame_behind (fun vs H Q E h => ?_) (fun cdv A outer s H vs Q E hr h => ?_)
  · obtain ⟨S, a, fs, i, g, rfl, _⟩ := h; rfl
  · obtain ⟨S, a, fs, i, g, rfl, ⟨ps, rfl, ha, hl, hf⟩, k⟩ := h
    rw [List.length_map] at k
    refine ⟨_, (pss_cons (ps_if (pt_cmpR op_lt (pe_op op_add (pv 1) pe_int) (pe_callB call_len_seq (by rfl) T.b_len PySem.boot_len (pa_cons (pv 0) pa_nil)) (nomark _))
        (pss_one (ps_ret (pe_op op_add (pv 1) pe_int)))
        pss_nil)
      (pss_one (ps_ret (pe_ifExp (pt_cmpR op_eq (pv 2) (C8.pe_gc rfl T.c_GOES_ROUND) (nomark _)) pe_int (pv 1))))), ?_⟩
    refine q_when (et_test (ev_op (ev_op (ev_var (v := nV i) rfl) (ev_c (v := nV 1)) rv_addN) (ev_is (ev_lenL (ev_var rfl) (sq_of hl)) (by rw [List.length_map])) rv_ltN)) (fun hb H1 e1 => ?_) (fun hb H1 e1 => ?_)
    · rw [if_pos (of_decide_eq_true hb)] at k
      exact s_ret (ev_op (ev_var (v := nV i) rfl) (ev_c (v := nV 1)) rv_addN) fun H2 e2 => k H2 (e1.trans e2)
    · rw [if_neg (of_decide_eq_false hb)] at k
      refine s_ret (v := nV (if g = 1 then 0 else i)) (ev_if (b := decide (g = 1)) (et_test (ev_op (ev_var (v := nV g) rfl) (ev_c (v := nV 1)) rv_eqN)) (fun hb2 => ?_) (fun hb2 => ?_)) fun H2 e2 => k H2 (e1.trans e2)
      · rw [if_pos (of_decide_eq_true hb2)]; exact ev_c
      · rw [if_neg (of_decide_eq_false hb2)]; exact ev_var rfl

/-! ### mixed -/
def mixN (x : Ie12.Frame) (bs : List Nat) (k : Nat) : List Nat := (x.cells.zip bs).map fun q => Ie12.near ((x.ticks - k) * q.1 + k * q.2) x.ticks
def spMixed : Sp := fun vs H Q _ => ∃ (S : Addr → Prop) (t c : Addr) (x : Ie12.Frame) (bs : List Nat) (k : Nat), vs = [.ref t, .ref c, nV k] ∧ FrAt S H t x ∧ H c = some (.lst (bs.map nV)) ∧ bs.length = x.cells.length ∧ bs.length ≤ 1000 ∧ k < x.ticks ∧ x.ticks ≤ 1000 ∧ RetL ((mixN x bs k).map nV) H Q
theorem ok_mixed {f : Addr} {fd : FuncData} (T : Txt mg) (c_nearest : C8.Cal P w K mg base 1 "nearest" spNear []) (F : C8.Def K mg "mixed" s_mixed f fd) (b : Binds K fd ["frame", "cells", "into"] []) : C8.Cal P w K mg base 2 "mixed" spMixed [] := by
  refine C8.cal0 F b .nil sc_mixed (fun vs H Q E h => ?_) (fun cdv A outer s H vs Q E hr h => ?_)
  · obtain ⟨S, t, c, x, bs, n, rfl, _⟩ := h; rfl
  · obtain ⟨S, t, c, x, bs, n, rfl, ⟨_, d, ht, hd⟩, hc, hl, hz, hn, hx, k⟩ := h
    refine ⟨_, (pss_cons (ps_set (i := 3) sc_mixed.nd rfl (.inr rfl) (pe_ix ix_tup (pv 0) pe_int (fun _ _ => rfl)))
      (pss_one (ps_ret (pe_lc (own := [("a", 4), ("b", 5)]) (g := gTup K 2 (gCons (gName 4) (gCons (gName 5) gNil))) (tt := tYes) rfl sc_mixed.nd (pi_zip (by rfl) T.b_zip (pa_cons (pe_ix ix_tup (pv 0) pe_int (fun _ _ => rfl)) (pa_cons (pv 1) pa_nil))) (blkOk_by (N := ["frame", "cells", "into", "ticks", "a", "b"]) (sc := C8.fnScope s_mixed) (by decide +kernel)) (fun _ _ _ _ _ => (pg_tup rfl (pgs_cons (pg_name (i := 4) sc_mixed.nd rfl (.inl rfl)) (pgs_cons (pg_name (i := 5) sc_mixed.nd rfl (.inl rfl)) pgs_nil)))) (fun _ _ _ _ _ => pts_nil) (fun _ _ _ _ _ => (C8.pe_c c_nearest hr (by decide) rfl (pa_cons (pe_op op_add (pe_op op_mul (pe_op op_sub (pv 3) (pv 2)) (pv 4)) (pe_op op_mul (pv 2) (pv 5))) (pa_cons (pv 3) pa_nil)))))))), ?_⟩
    refine q_asg (v := nV x.ticks) (ev_op (ev_var rfl) (ev_c (v := nV 0)) (rv_ixTN (st_of ht) rfl)) fun H1 e1 => ?_
    refine s_retL (el_is (ys := (mixN x bs n).map nV) (el_lcZ (xs := x.cells.map nV) (ys := bs.map nV) (fun i => nV (Ie12.near ((x.ticks - n) * x.cells.getD i 0 + n * bs.getD i 0) x.ticks)) (ea_cons (ev_op (ev_var rfl) (ev_c (v := nV 1)) (rv_ixTN (v := .ref d) (st_of (e1 _ _ ht)) rfl)) (ea_cons (ev_var rfl) ea_nil)) (sq_of (e1 _ _ hd.2)) (sq_of (e1 _ _ hc)) (by rw [List.length_map, List.length_map]; omega) (by rw [List.length_map]; omega) ?_) ?_) fun p H2 hp e2 h2 => k p H2 (fresh_back e1 hp) (e1.trans e2) h2
    · intro i u v p H2 hu hv e2 hp
      obtain ⟨a1, ha1, rfl⟩ := nv_at hu
      obtain ⟨b1, hb1, rfl⟩ := nv_at hv
      rw [getD_of ha1, getD_of hb1]
      exact ⟨_, eg_tup2 hp, rfl, et_yes, ev_call (ea_cons (ev_op (ev_op (ev_op (ev_var (v := nV x.ticks) rfl) (ev_var (v := nV n) rfl) (rv_subN (by omega))) (ev_var (v := nV a1) rfl) (rv_mulN (by omega))) (ev_op (ev_var (v := nV n) rfl) (ev_var (v := nV b1) rfl) (rv_mulN (by omega))) rv_addN) (ea_cons (ev_var (v := nV x.ticks) rfl) ea_nil)) fun H3 e3 Q q _ => ⟨_, x.ticks, rfl, by omega, by omega, q⟩⟩
    · rw [List.length_map]
      apply List.ext_getElem?
      intro i
      unfold mixN
      rw [List.getElem?_map, List.getElem?_map, List.getElem?_map]
      by_cases h : i < x.cells.length
      · have h2 : i < bs.length := by omega
        rw [List.getElem?_range h, List.getElem?_eq_getElem (show i < (x.cells.zip bs).length by rw [List.length_zip]; omega), List.getElem_zip]
        show some _ = some _
        dsimp only
        rw [getD_of (List.getElem?_eq_getElem h), getD_of (List.getElem?_eq_getElem h2)]
      · rw [List.getElem?_eq_none (by rw [List.length_range]; omega), List.getElem?_eq_none (by rw [List.length_zip]; omega)]
        rfl
end
end FF

set_option Elab.async false
set_option linter.all false
set_option maxRecDepth 100000
set_option maxHeartbeats 2000000
namespace FF
open PySem PySem.Spec PyProof.Rows L2 Evl
def boxN (c : Ie12.Change) : List Nat := [c.x, c.y, c.u, c.v]
def toldN (c : Nat × Ie12.Change) : List Nat := [c.1, c.2.x, c.2.y, c.2.u, c.2.v] ++ c.2.cells
theorem changes_len {w h : Nat} (hw : 1 ≤ w) : ∀ (l : List Ie12.Frame) (a : List Nat), ((Ie12.changes w h a l).flatMap toldN).length ≤ (5 + w * h) * l.length
  | [], _ => by
    show 0 ≤ _
    omega
  | x :: l, a => by
    show ((((x.ticks, Ie12.change w h a x.cells) :: Ie12.changes w h x.cells l)).flatMap toldN).length ≤ _
    have ih := changes_len (h := h) hw l x.cells
    have hc : (Ie12.change w h a x.cells).cells.length ≤ w * h := by
      rw [change_cells hw, List.length_map]
      have := List.length_filter_le (fun c => inB (Ie12.change w h a x.cells).x (Ie12.change w h a x.cells).y (Ie12.change w h a x.cells).u (Ie12.change w h a x.cells).v (c % w) (c / w)) (List.range (w * h))
      rw [List.length_range] at this
      exact this
    rw [List.flatMap_cons, List.length_append, List.length_cons, Nat.mul_succ]
    have e : (toldN (x.ticks, Ie12.change w h a x.cells)).length = 5 + (Ie12.change w h a x.cells).cells.length := by
      unfold toldN
      rw [List.length_append]
      rfl
    omega
section
variable {P : Program} {w : World} {K : PySem.W.Frag} {mg : Str → Option Value} {base : Heap}
/-! ### changed_box, cells_in -/
theorem differ_at {as bs : List Nat} {i m n : Nat} (h1 : as[i]? = some m) (h2 : bs[i]? = some n) : (!decide (m = n)) = Ie12.differ as bs i := by
  unfold Ie12.differ
  rw [h1, h2]
  by_cases e : m = n
  · subst e; simp
  · simp [e]
def spCBox : Sp := fun vs H Q _ => ∃ (p c : Addr) (as bs : List Nat) (wd ht : Nat), vs = [.ref p, .ref c, nV wd] ∧ H p = some (.lst (as.map nV)) ∧ H c = some (.lst (bs.map nV)) ∧ as.length = wd * ht ∧ bs.length = wd * ht ∧ 1 ≤ wd ∧ wd ≤ 6 ∧ ht ≤ 6 ∧ RetL ((boxN (Ie12.change wd ht as bs)).map nV) H Q
theorem ok_changed_box {f : Addr} {fd : FuncData} (T : Txt mg) (F : C8.Def K mg "changed_box" s_changed_box f fd) (b : Binds K fd ["before", "cells", "width"] []) : C8.Cal P w K mg base 1 "changed_box" spCBox [] := by
  refine C8.cal0 F b .nil sc_changed_box (fun vs H Q E h => ?_) (fun cdv A outer s H vs Q E hr h => ?_)
  · obtain ⟨p, c, as, bs, wd, ht, rfl, _⟩ := h; rfl
  · obtain ⟨p, c, as, bs, wd, ht, rfl, hp, hc, la, lb, w1, w6, h6, k⟩ := h
    have area : wd * ht ≤ 36 := Nat.le_trans (Nat.mul_le_mul w6 h6) (by decide)
    refine ⟨_, (pss_cons (ps_setLc (i := 3) (own := [("c", 8)]) (g := gName 8) (tt := tTest (tOp rNe (tOp (rIxL K) (tVar 0) (tVar 8)) (tOp (rIxL K) (tVar 1) (tVar 8)))) rfl sc_changed_box.nd rfl rfl (sw_true rfl rfl rfl (by decide +kernel)) (pi_range1 (by rfl) T.b_range (pa_cons (pe_callB call_len_seq (by rfl) T.b_len PySem.boot_len (pa_cons (pv 1) pa_nil)) pa_nil)) (blkOk_by (N := ["before", "cells", "width", "differing", "columns", "rows", "x", "y", "c"]) (sc := C8.fnScope s_changed_box) (by decide +kernel)) (fun _ _ _ _ _ => (pg_name (i := 8) sc_changed_box.nd rfl (.inl rfl))) (fun _ _ _ _ _ => (pts_one (pt_cmpR op_ne (pe_ix ix_list (pv 0) (pv 8) (fun _ _ => rfl)) (pe_ix ix_list (pv 1) (pv 8) (fun _ _ => rfl)) (nomark _)))) (fun _ _ _ _ _ => (pv 8)))
      (pss_cons (ps_if (pt_cmpR op_eq (pe_callB call_len_seq (by rfl) T.b_len PySem.boot_len (pa_cons (pv 3) pa_nil)) pe_int (nomark _))
        (pss_one (ps_ret (pe_lst (pa_cons pe_int (pa_cons pe_int (pa_cons pe_int (pa_cons pe_int pa_nil)))))))
        pss_nil)
      (pss_cons (ps_setLc (i := 4) (own := [("c", 8)]) (g := gName 8) (tt := tYes) rfl sc_changed_box.nd rfl rfl (sw_true rfl rfl rfl (by decide +kernel)) (pi_list (pv 3)) (blkOk_by (N := ["before", "cells", "width", "differing", "columns", "rows", "x", "y", "c"]) (sc := C8.fnScope s_changed_box) (by decide +kernel)) (fun _ _ _ _ _ => (pg_name (i := 8) sc_changed_box.nd rfl (.inl rfl))) (fun _ _ _ _ _ => pts_nil) (fun _ _ _ _ _ => (pe_op op_modN (pv 8) (pv 2))))
      (pss_cons (ps_setLc (i := 5) (own := [("c", 8)]) (g := gName 8) (tt := tYes) rfl sc_changed_box.nd rfl rfl (sw_true rfl rfl rfl (by decide +kernel)) (pi_list (pv 3)) (blkOk_by (N := ["before", "cells", "width", "differing", "columns", "rows", "x", "y", "c"]) (sc := C8.fnScope s_changed_box) (by decide +kernel)) (fun _ _ _ _ _ => (pg_name (i := 8) sc_changed_box.nd rfl (.inl rfl))) (fun _ _ _ _ _ => pts_nil) (fun _ _ _ _ _ => (pe_op op_fdivN (pv 8) (pv 2))))
      (pss_cons (ps_set (i := 6) sc_changed_box.nd rfl (.inl rfl) (pe_callB (cr_min rfl) (by rfl) T.b_min (by decide +kernel) (pa_cons (pv 4) pa_nil)))
      (pss_cons (ps_set (i := 7) sc_changed_box.nd rfl (.inl rfl) (pe_callB (cr_min rfl) (by rfl) T.b_min (by decide +kernel) (pa_cons (pv 5) pa_nil)))
      (pss_one (ps_ret (pe_lst (pa_cons (pv 6) (pa_cons (pv 7) (pa_cons (pe_op op_sub (pe_op op_add (pe_callB (cr_max rfl) (by rfl) T.b_max (by decide +kernel) (pa_cons (pv 4) pa_nil)) pe_int) (pv 6)) (pa_cons (pe_op op_sub (pe_op op_add (pe_callB (cr_max rfl) (by rfl) T.b_max (by decide +kernel) (pa_cons (pv 5) pa_nil)) pe_int) (pv 7)) pa_nil))))))))))))), ?_⟩
    have hlen : (((bs.map nV).length : Nat) : Int).toNat = wd * ht := by rw [List.length_map, Int.toNat_natCast, lb]
    refine q_asgL (el_is (ys := (diffs wd ht as bs).map nV) (el_lcR1 (n := (((bs.map nV).length : Nat) : Int)) (fun i => Ie12.differ as bs i) (fun i => nV i) (ea_cons (ev_len (ev_var rfl) (sq_of hc)) ea_nil) ⟨by omega, by rw [List.length_map]; omega⟩ (fun _ => rfl) (fun i H1 e1 hi => ?_) (fun i H1 e1 hi _ => ev_var rfl)) (by rw [hlen]; rfl)) fun d H1 nd e1 h1 => ?_
    · rw [List.length_map] at hi
      have i1 : i < as.length := by omega
      have i2 : i < bs.length := by omega
      have g1 : as[i]? = some as[i] := List.getElem?_eq_getElem i1
      have g2 : bs[i]? = some bs[i] := List.getElem?_eq_getElem i2
      exact et_is (et_test (ev_op (ev_op (ev_var (v := .ref p) rfl) (ev_var (v := nV i) rfl) (rv_ixLN (sq_of (e1 _ _ hp)) (nv_mk g1))) (ev_op (ev_var (v := .ref c) rfl) (ev_var (v := nV i) rfl) (rv_ixLN (sq_of (e1 _ _ hc)) (nv_mk g2))) rv_neN)) (differ_at g1 g2)
    · have dl : (diffs wd ht as bs).length ≤ wd * ht := by
        have := List.length_filter_le (Ie12.differ as bs) (List.range (wd * ht))
        rw [List.length_range] at this
        exact this
      refine q_when (et_test (ev_op (ev_is (ev_lenL (ev_var rfl) (sq_of h1)) (by rw [List.length_map])) (ev_c (v := nV 0)) rv_eqN)) (fun hb H2 e2 => ?_) (fun hb H2 e2 => ?_)
      · have hd : diffs wd ht as bs = [] := List.eq_nil_of_length_eq_zero (of_decide_eq_true hb)
        rw [change_none hd] at k
        exact s_retL (el_lst (ea_cons ev_c (ea_cons ev_c (ea_cons ev_c (ea_cons ev_c ea_nil)))) (by simp)) fun q H3 nq e3 h3 => k q H3 (fresh_back (e1.trans e2) nq) ((e1.trans e2).trans e3) h3
      · have hd : diffs wd ht as bs ≠ [] := fun z => (of_decide_eq_false hb) (by rw [z]; rfl)
        obtain ⟨cx, cy, cu, cv, _⟩ := change_some hd
        have hx : (diffs wd ht as bs).map (fun i => i % wd) ≠ [] := fun z => hd (List.map_eq_nil_iff.mp z)
        have hy : (diffs wd ht as bs).map (fun i => i / wd) ≠ [] := fun z => hd (List.map_eq_nil_iff.mp z)
        have l1 := (least_mem hx).2 _ (most_mem hx).1
        have l2 := (least_mem hy).2 _ (most_mem hy).1
        refine q_asgL (el_is (ys := ((diffs wd ht as bs).map fun i => i % wd).map nV) (el_lcG (diffs wd ht as bs) nV (fun i => nV (i % wd)) (fun _ => true) (ev_var rfl) (sq_of (e2 _ _ h1)) (by omega) (fun i _ H3 e3 => ⟨_, eg_name, rfl, et_yes, fun _ => ev_op (ev_var (v := nV i) rfl) (ev_var (v := nV wd) rfl) (rv_modN (by omega))⟩)) (by rw [filter_true, List.map_map]; rfl)) fun q1 H3 n3 e3 h3 => ?_
        refine q_asgL (el_is (ys := ((diffs wd ht as bs).map fun i => i / wd).map nV) (el_lcG (diffs wd ht as bs) nV (fun i => nV (i / wd)) (fun _ => true) (ev_var rfl) (sq_of (e3 _ _ (e2 _ _ h1))) (by omega) (fun i _ H4 e4 => ⟨_, eg_name, rfl, et_yes, fun _ => ev_op (ev_var (v := nV i) rfl) (ev_var (v := nV wd) rfl) (rv_divN (by omega) (by omega))⟩)) (by rw [filter_true, List.map_map]; rfl)) fun q2 H4 n4 e4 h4 => ?_
        generalize (diffs wd ht as bs).map (fun i => i % wd) = xs at *
        generalize (diffs wd ht as bs).map (fun i => i / wd) = ys at *
        refine q_asg (v := nV (Ie12.leastOf xs)) (ev_minL (ev_var rfl) (sq_of (e4 _ _ h3)) hx) fun H5 e5 => ?_
        refine q_asg (v := nV (Ie12.leastOf ys)) (ev_minL (ev_var rfl) (sq_of (e5 _ _ h4)) hy) fun H6 e6 => ?_
        have h3' := (e4.trans (e5.trans e6)) _ _ h3
        have h4' := (e5.trans e6) _ _ h4
        refine s_retL (xs := (boxN (Ie12.change wd ht as bs)).map nV) (el_is (el_lst (ea_cons (ev_var (v := nV (Ie12.leastOf xs)) rfl) (ea_cons (ev_var (v := nV (Ie12.leastOf ys)) rfl) (ea_cons (ev_op (ev_op (ev_maxL (ev_var rfl) (sq_of h3') hx) (ev_c (v := nV 1)) rv_addN) (ev_var (v := nV (Ie12.leastOf xs)) rfl) (rv_subN (by omega))) (ea_cons (ev_op (ev_op (ev_maxL (ev_var rfl) (sq_of h4') hy) (ev_c (v := nV 1)) rv_addN) (ev_var (v := nV (Ie12.leastOf ys)) rfl) (rv_subN (by omega))) ea_nil)))) (by simp)) ?_) fun q H7 nq e7 h7 => k q H7 (fresh_back (e1.trans (e2.trans (e3.trans (e4.trans (e5.trans e6))))) nq) ((e1.trans (e2.trans (e3.trans (e4.trans (e5.trans e6))))).trans e7) h7
        unfold boxN
        rw [cu, cv, cx, cy]
        rfl
def spCellsIn (K : PySem.W.Frag) : Sp := fun vs H Q _ => ∃ (c g : Addr) (cs : List Nat) (wd x y u v : Nat), vs = [.ref c, nV wd, .ref g] ∧ H c = some (.lst (cs.map nV)) ∧ SqL K H g [nV x, nV y, nV u, nV v] ∧ cs.length ≤ 1000 ∧ 1 ≤ wd ∧ wd ≤ 6 ∧
  RetL ((((List.range cs.length).filter fun i => inB x y u v (i % wd) (i / wd)).map fun i => cs.getD i 0).map nV) H Q
theorem ok_cells_in {f : Addr} {fd : FuncData} (T : Txt mg) (c_in_box : C8.Cal P w K mg base 1 "in_box" (spInBox K) []) (F : C8.Def K mg "cells_in" s_cells_in f fd) (b : Binds K fd ["cells", "width", "box"] []) : C8.Cal P w K mg base 2 "cells_in" (spCellsIn K) [] := by
  refine C8.cal0 F b .nil sc_cells_in (fun vs H Q E h => ?_) (fun cdv A outer s H vs Q E hr h => ?_)
  · obtain ⟨c, g, cs, wd, x, y, u, v, rfl, _⟩ := h; rfl
  · obtain ⟨c, g, cs, wd, x, y, u, v, rfl, hc, hg, hz, hw, hw6, k⟩ := h
    refine ⟨_, (pss_one (ps_ret (pe_lc (own := [("c", 3), ("cell", 4)]) (g := gTup K 2 (gCons (gName 3) (gCons (gName 4) gNil))) rfl sc_cells_in.nd (pi_enum (by rfl) T.b_enumerate (pa_cons (pv 0) pa_nil)) (blkOk_by (N := ["cells", "width", "box", "c", "cell"]) (sc := C8.fnScope s_cells_in) (by decide +kernel)) (fun _ _ _ _ _ => (pg_tup rfl (pgs_cons (pg_name (i := 3) sc_cells_in.nd rfl (.inl rfl)) (pgs_cons (pg_name (i := 4) sc_cells_in.nd rfl (.inl rfl)) pgs_nil)))) (fun _ _ _ _ _ => (pts_one (pt_val (C8.pe_c c_in_box hr (by decide) rfl (pa_cons (pv 2) (pa_cons (pe_op op_modN (pv 3) (pv 1)) (pa_cons (pe_op op_fdivN (pv 3) (pv 1)) pa_nil))))))) (fun _ _ _ _ _ => (pv 4))))), ?_⟩
    refine s_retL (el_is (el_lcEF (xs := cs.map nV) (fun i => inB x y u v (i % wd) (i / wd)) (fun i => nV (cs.getD i 0)) (ea_cons (ev_var rfl) ea_nil) (sq_of hc) ?_ ?_) ?_) k
    · rw [List.length_map]; omega
    · intro i z p H1 hi e1 hp
      obtain ⟨n, hn, rfl⟩ := nv_at hi
      rw [getD_of hn]
      refine ⟨_, eg_tup2 hp, rfl, et_B (ev_call (ea_cons (ev_var (v := .ref g) rfl) (ea_cons (ev_op (ev_var (v := nV i) rfl) (ev_var (v := nV wd) rfl) (rv_modN (by omega))) (ea_cons (ev_op (ev_var (v := nV i) rfl) (ev_var (v := nV wd) rfl) (rv_divN (by omega) (by omega))) ea_nil))) ?_), fun _ => ev_var rfl⟩
      exact fun H2 e2 Q q _ => ⟨g, x, y, u, v, _, _, rfl, ex_l (e1.trans e2) hg, q⟩
    · rw [List.length_map, List.map_map]
      rfl

/-! ### told_of -/
def spToldOf : Sp := fun vs H Q _ => ∃ (S : Addr → Prop) (a : Addr) (fs : List Ie12.Frame) (wd ht : Nat), vs = [.ref a, nV wd] ∧ FrsAt S H a fs ∧ fs.length ≤ 1000 ∧ 1 ≤ fs.length ∧ (∀ x ∈ fs, x.cells.length = wd * ht) ∧ 1 ≤ wd ∧ wd ≤ 6 ∧ ht ≤ 6 ∧ RetL (((Ie12.changes wd ht (Ie12.blank wd ht) fs).flatMap toldN).map nV) H Q
theorem ok_told_of {f : Addr} {fd : FuncData} (T : Txt mg) (c_changed_box : C8.Cal P w K mg base 1 "changed_box" spCBox []) (c_cells_in : C8.Cal P w K mg base 2 "cells_in" (spCellsIn K) []) (F : C8.Def K mg "told_of" s_told_of f fd) (b : Binds K fd ["frames", "width"] []) : C8.Cal P w K mg base 3 "told_of" spToldOf [] := by
  refine C8.cal0 F b .nil sc_told_of (fun vs H Q E h => ?_) (fun cdv A outer s H vs Q E hr h => ?_)
  · obtain ⟨S, a, fs, wd, ht, rfl, _⟩ := h; rfl
  · obtain ⟨S, a, fs, wd, ht, rfl, hfs, hz, hn1, hcl, w1, w6, h6, k⟩ := h
    obtain ⟨ps, hps, ha, hl, hf⟩ := id hfs
    have hpl : ps.length = fs.length := by rw [← hps, List.length_map]
    have area : wd * ht ≤ 36 := Nat.le_trans (Nat.mul_le_mul w6 h6) (by decide)
    refine ⟨_, (pss_cons (ps_set (i := 2) sc_told_of.nd rfl (.inl rfl) (pe_lst pa_nil))
      (pss_cons (ps_set (i := 3) sc_told_of.nd rfl (.inl rfl) (pe_op op_rep (pe_lst (pa_cons pe_int pa_nil)) (pe_callB call_len_seq (by rfl) T.b_len PySem.boot_len (pa_cons (pe_ix ix_tup (pe_ix ix_list (pv 0) pe_int (fun _ _ => rfl)) pe_int (fun _ _ => rfl)) pa_nil))))
      (pss_cons (ps_for PassesOwn.never rfl (pi_list (pv 0)) (pg_tup rfl (pgs_cons (pg_name (i := 4) sc_told_of.nd rfl (.inl rfl)) (pgs_cons (pg_name (i := 5) sc_told_of.nd rfl (.inl rfl)) pgs_nil)))
        (pss_cons (ps_set (i := 6) sc_told_of.nd rfl (.inl rfl) (C8.pe_c c_changed_box hr (by decide) rfl (pa_cons (pv 3) (pa_cons (pv 5) (pa_cons (pv 1) pa_nil)))))
        (pss_cons (ps_expr (pe_bm PySem.F.plainAttrs_list PySem.F.slot_list_append PySem.F.type_list_append mt_append (pv 2) (pa_cons (pv 4) pa_nil)))
        (pss_cons (ps_expr (pe_bm PySem.F.plainAttrs_list PySem.F.slot_list_extend PySem.F.type_list_extend mt_extend (pv 2) (pa_cons (pv 6) pa_nil)))
        (pss_cons (ps_expr (pe_bm PySem.F.plainAttrs_list PySem.F.slot_list_extend PySem.F.type_list_extend mt_extend (pv 2) (pa_cons (C8.pe_c c_cells_in hr (by decide) rfl (pa_cons (pv 5) (pa_cons (pv 1) (pa_cons (pv 6) pa_nil)))) pa_nil)))
        (pss_one (ps_set (i := 3) sc_told_of.nd rfl (.inl rfl) (pv 5))))))))
      (pss_one (ps_ret (pv 2)))))), ?_⟩
    refine q_asgL (el_lst ea_nil (by decide)) fun l H1 nl e1 h1 => ?_
    obtain ⟨x0, hx0⟩ : ∃ x, fs[0]? = some x := ⟨_, List.getElem?_eq_getElem (by omega)⟩
    obtain ⟨xs0, t0, c0, hfa, hxs0, _, htt0, hpc0⟩ := hfs.at hx0
    have len0 := hcl x0 (List.mem_of_getElem? hx0)
    refine q_asgL (el_is (ys := (Ie12.blank wd ht).map nV) (el_rep (xs := [.int 0]) (k := wd * ht) (el_lst (ea_cons ev_c ea_nil) (by decide)) (ev_is (ev_lenL (ev_op (ev_op (ev_var rfl) (ev_c (v := nV 0)) (rv_ixLN (sq_of (e1 _ _ hfa)) hxs0)) (ev_c (v := nV 1)) (rv_ixTN (v := .ref c0) (st_of (e1 _ _ htt0)) rfl)) (sq_of (e1 _ _ hpc0.2))) (by rw [List.length_map, len0]; rfl)) (by simp; omega) (by omega)) (by rw [flat_rep]; unfold Ie12.blank; rw [List.map_replicate]; rfl)) fun bf H2 nbf e2 h2 => ?_
    have nbfl : bf ≠ l := fun z => by rw [z, h1] at nbf; cases nbf
    refine q_forL (xs := ps.map rf) (ev_var rfl) (sq_of ((e1.trans e2) _ _ hl)) (fun i σ' H' => ∃ bp y4 y5 y6, σ' = [some (.ref a), some (nV wd), some (.ref l), some (.ref bp), y4, y5, y6] ∧ Ex H H' ∧ H' l = some (.lst (((Ie12.changes wd ht (Ie12.blank wd ht) (fs.take i)).flatMap toldN).map nV)) ∧ bp ≠ l ∧ H' bp = some (.lst (((((fs.take i).getLast?.map fun f => f.cells).getD (Ie12.blank wd ht))).map nV)) ∧ (((fs.take i).getLast?.map fun f => f.cells).getD (Ie12.blank wd ht)).length = wd * ht)
      (fun H3 e3 => ⟨bf, none, none, none, rfl, (e1.trans e2).trans e3, e3 _ _ (e2 _ _ h1), nbfl, e3 _ _ h2, blank_len wd ht⟩) (fun i σ' H' _ hP => ?_) (fun i x σ' H' hi hP => ?_) (fun σ' H' hP => ?_)
    · obtain ⟨_, _, _, _, _, ee, _⟩ := hP
      exact sq_of (ee _ _ hl)
    · obtain ⟨bp, y4, y5, y6, rfl, ee, hq, nbp, hbp, lbp⟩ := hP
      rw [List.getElem?_map] at hi
      cases hp : ps[i]? with
      | none => rw [hp] at hi; cases hi
      | some p =>
        rw [hp] at hi
        obtain rfl : rf p = x := Option.some.inj hi
        obtain ⟨hnt, c, ht', hc⟩ := hf p (List.mem_of_getElem? hp)
        have hfi : fs[i]? = some p.2 := by rw [← hps, List.getElem?_map, hp]; rfl
        have lc := hcl p.2 (List.mem_of_getElem? hfi)
        have etake : fs.take (i + 1) = fs.take i ++ [p.2] := by
          rw [List.take_add_one, hfi]; rfl
        have elast : (((fs.take (i + 1)).getLast?.map fun f => f.cells).getD (Ie12.blank wd ht)) = p.2.cells := by
          rw [etake, List.getLast?_append]; rfl
        have step : (Ie12.changes wd ht (Ie12.blank wd ht) (fs.take (i + 1))).flatMap toldN = (Ie12.changes wd ht (Ie12.blank wd ht) (fs.take i)).flatMap toldN ++ toldN (p.2.ticks, Ie12.change wd ht (((fs.take i).getLast?.map fun f => f.cells).getD (Ie12.blank wd ht)) p.2.cells) := by
          rw [etake, changes_append, List.flatMap_append, List.flatMap_singleton]
        have hbig : ((Ie12.changes wd ht (Ie12.blank wd ht) (fs.take i)).flatMap toldN).length ≤ 41000 := by
          refine Nat.le_trans (changes_len w1 _ _) (Nat.le_trans (Nat.mul_le_mul (show 5 + wd * ht ≤ 41 by omega) (show (fs.take i).length ≤ 1000 by rw [List.length_take]; omega)) (by decide))
        rw [step, elast]
        generalize (Ie12.changes wd ht (Ie12.blank wd ht) (fs.take i)).flatMap toldN = told at *
        generalize (((fs.take i).getLast?.map fun f => f.cells).getD (Ie12.blank wd ht)) = prev at *
        have hsz : sizeLine = 16777216 := rfl
        have ncl : c ≠ l := ne_of_none hc.2 nl
        refine eg_tup2 (st_of (ee _ _ ht')) _ ?_
        refine q_asgL (xs := (boxN (Ie12.change wd ht prev p.2.cells)).map nV) (el_call (ea_cons (ev_var (v := .ref bp) rfl) (ea_cons (ev_var (v := .ref c) rfl) (ea_cons (ev_var (v := nV wd) rfl) ea_nil))) fun H3 e3 Q q _ => ⟨bp, c, prev, p.2.cells, wd, ht, rfl, e3 _ _ hbp, (ee.trans e3) _ _ hc.2, lbp, lc, w1, w6, h6, q⟩) fun bx H3 nbx e3 h3 => ?_
        have nbxl : bx ≠ l := fun z => by rw [z, hq] at nbx; cases nbx
        refine q_appW (e3 _ _ hq) (ev_var rfl) (v := nV p.2.ticks) (ev_var rfl) (by rw [List.length_map]; omega) fun H4 e4 => ?_
        refine q_extW upd_same (ev_var rfl) (ev_var (v := .ref bx) rfl) (by rw [upd_ne nbxl]; exact e4 _ _ h3) (by rw [List.length_append, List.length_map, List.length_map]; show _ + 1 + 4 ≤ _; omega) fun H5 e5 => ?_
        have keep5 : ∀ b o, b ≠ l → H3 b = some o → H5 b = some o := fun b o nb hb => e5 _ _ (by rw [upd_ne nb]; exact e4 _ _ hb)
        have hc5 : (upd H5 l (.lst (told.map nV ++ [nV p.2.ticks] ++ (boxN (Ie12.change wd ht prev p.2.cells)).map nV))) c = some (.lst (p.2.cells.map nV)) := by
          rw [upd_ne ncl]; exact keep5 _ _ ncl ((ee.trans e3) _ _ hc.2)
        have hb5 : (upd H5 l (.lst (told.map nV ++ [nV p.2.ticks] ++ (boxN (Ie12.change wd ht prev p.2.cells)).map nV))) bx = some (.lst ((boxN (Ie12.change wd ht prev p.2.cells)).map nV)) := by
          rw [upd_ne nbxl]; exact keep5 _ _ nbxl h3
        refine q_extN (ys := (Ie12.change wd ht prev p.2.cells).cells.map nV) upd_same (ev_var rfl) (el_call (ea_cons (ev_var (v := .ref c) rfl) (ea_cons (ev_var (v := nV wd) rfl) (ea_cons (ev_var (v := .ref bx) rfl) ea_nil))) fun H6 e6 Q q _ => ⟨c, bx, p.2.cells, wd, _, _, _, _, rfl, e6 _ _ hc5, sq_of (e6 _ _ hb5), by omega, w1, w6, ?_⟩) ?_ fun H6 e6 => ?_
        · rw [lc, ← change_cells w1]
          exact q
        · have : (Ie12.change wd ht prev p.2.cells).cells.length ≤ 36 := by
            rw [change_cells w1, List.length_map]
            refine Nat.le_trans (List.length_filter_le _ _) ?_
            rw [List.length_range]; exact area
          rw [List.length_append, List.length_append, List.length_map, List.length_map, List.length_map]
          show _ + 1 + 4 + _ ≤ _
          omega
        · refine s_asg (v := .ref c) (ev_var rfl) fun H7 e7 => ?_
          have keep : ∀ b o, b ≠ l → H3 b = some o → H7 b = some o := fun b o nb hb => e7 _ _ (by
            rw [upd_ne nb]
            exact e6 _ _ (by rw [upd_ne nb]; exact keep5 _ _ nb hb))
          refine ⟨c, _, _, _, rfl, fun b o hb => keep b o (ne_of_none hb nl) ((ee.trans e3) _ _ hb), e7 _ _ ?_, ncl, keep _ _ ncl ((ee.trans e3) _ _ hc.2), lc⟩
          rw [upd_same, List.map_append]
          congr 2
          unfold toldN boxN
          rw [List.map_append, List.append_assoc, List.append_assoc]
          rfl
    · obtain ⟨bp, y4, y5, y6, rfl, ee, hq, _⟩ := hP
      rw [List.length_map, hpl, List.take_of_length_le (Nat.le_refl _)] at hq
      exact s_ret (ev_var rfl) fun H3 e3 => k l H3 nl (ee.trans e3) (e3 _ _ hq)
end
end FF

set_option Elab.async false
set_option linter.all false
set_option maxRecDepth 100000
set_option maxHeartbeats 2000000
namespace FF
open PySem PySem.Spec PyProof.Rows L2 Evl
theorem cut_part (xs : List V) (j k : Nat) (h : j ≤ k) : cutV xs (some (j : Int)) (some (k : Int)) = (xs.drop j).take (k - j) := by
  unfold cutV
  rw [HT.sIx_nat, HT.sIx_nat]
  by_cases h1 : j ≤ xs.length
  · rw [Nat.min_eq_left h1]
    by_cases h2 : k ≤ xs.length
    · rw [Nat.min_eq_left h2]
    · rw [Nat.min_eq_right (by omega), List.take_of_length_le (by rw [List.length_drop]; omega), List.take_of_length_le (by rw [List.length_drop]; omega)]
  · rw [List.drop_eq_nil_of_le (show xs.length ≤ min j xs.length by omega), List.drop_eq_nil_of_le (show xs.length ≤ j by omega), List.take_nil, List.take_nil]
section
variable {K : PySem.W.Frag} {σ : L2.St} {H : Hp} {ta tb tc td : TE} {x y z : V}
/-- a call whose third argument is a new list -/
theorem el_call4 {sp : Sp} {E : XK} {xs ys : List V} (h1 : Ev ta σ H x) (h2 : Ev tb σ H y) (h3 : EvL tc σ H xs) (h4 : Ev td σ H z) (hs : ∀ p H1, Ex H H1 → H1 p = some (.lst xs) → ∀ Q : VK, RetL ys H1 Q → sp [x, y, .ref p, z] H1 Q E) : EvL (tCall sp [] E (tCons ta (tCons tb (tCons tc (tCons td tNil))))) σ H ys := fun H1 e Q q =>
  h1 H1 e _ fun H2 e2 => h2 H2 (e.trans e2) _ fun H3 e3 => h3 H3 ((e.trans e2).trans e3) _ fun p H4 hp e4 h4' => h4 H4 (((e.trans e2).trans e3).trans e4) _ fun H5 e5 => by
    have e15 := (((e2.trans e3).trans e4).trans e5)
    exact hs p H5 (e.trans e15) (e5 _ _ h4') Q fun q' H6 hq e6 h6 => q q' H6 (fresh_back e15 hq) (e15.trans e6) h6
end
section
variable {P : Program} {w : World} {K : PySem.W.Frag} {mg : Str → Option Value} {base : Heap}
/-! ### pasted -/
def spPaste (K : PySem.W.Frag) : Sp := fun vs H Q _ => ∃ (c g q : Addr) (a cs : List Nat) (wd ht x y u v : Nat), vs = [.ref c, nV wd, .ref g, .ref q] ∧ H c = some (.lst (a.map nV)) ∧ SqL K H g [nV x, nV y, nV u, nV v] ∧ SqL K H q (cs.map nV) ∧ a.length = wd * ht ∧ cs.length = u * v ∧ x + u ≤ wd ∧ y + v ≤ ht ∧ wd ≤ 6 ∧ ht ≤ 6 ∧ RetL ((Ie12.changed wd a ⟨x, y, u, v, cs⟩).map nV) H Q
theorem ok_pasted {f : Addr} {fd : FuncData} (T : Txt mg) (F : C8.Def K mg "pasted" s_pasted f fd) (b : Binds K fd ["cells", "width", "box", "numbers"] []) : C8.Cal P w K mg base 1 "pasted" (spPaste K) [] := by
  refine C8.cal0 F b .nil sc_pasted (fun vs H Q E h => ?_) (fun cdv A outer s H vs Q E hr h => ?_)
  · obtain ⟨c, g, q, a, cs, wd, ht, x, y, u, v, rfl, _⟩ := h; rfl
  · obtain ⟨c, g, q, a, cs, wd, ht, x, y, u, v, rfl, hc, hg, hq, la, lcs, hx, hy, w6, h6, k⟩ := h
    refine ⟨_, (pss_cons (ps_set (i := 4) sc_pasted.nd rfl (.inl rfl) (pe_callTy call_list_of (by rfl) T.b_list (by decide +kernel) (pa_cons (pv 0) pa_nil)))
      (pss_cons (ps_for PassesOwn.never rfl (pi_enum (by rfl) T.b_enumerate (pa_cons (pv 3) pa_nil)) (pg_tup rfl (pgs_cons (pg_name (i := 5) sc_pasted.nd rfl (.inl rfl)) (pgs_cons (pg_name (i := 6) sc_pasted.nd rfl (.inl rfl)) pgs_nil)))
        (pss_cons (ps_set (i := 7) sc_pasted.nd rfl (.inl rfl) (pe_op op_add (pe_ix ix_list (pv 2) pe_int (fun _ _ => rfl)) (pe_op op_modN (pv 5) (pe_ix ix_list (pv 2) pe_int (fun _ _ => rfl)))))
        (pss_cons (ps_set (i := 8) sc_pasted.nd rfl (.inl rfl) (pe_op op_add (pe_ix ix_list (pv 2) pe_int (fun _ _ => rfl)) (pe_op op_fdivN (pv 5) (pe_ix ix_list (pv 2) pe_int (fun _ _ => rfl)))))
        (pss_one (ps_asg (pv 6) (pg_sub (pv 4) (pe_op op_add (pe_op op_mul (pv 8) (pv 1)) (pv 7)) set_list))))))
      (pss_one (ps_ret (pv 4))))), ?_⟩
    refine q_asgL (el_list (ev_var rfl) (sq_of hc)) fun l H1 nl e1 h1 => ?_
    have ix : ∀ {σ' : L2.St} {H3 : Hp} (j n : Nat), σ'[2]? = some (some (.ref g)) → Ex H H3 → [nV x, nV y, nV u, nV v][j]? = some (nV n) → Ev (tOp (rIxL K) (tVar 2) (tC (nV j))) σ' H3 (nV n) := fun j n hs e h => ev_op (ev_var hs) ev_c (rv_ixLN (ex_l e hg) h)
    refine q_forE (xs := cs.map nV) (ea_cons (ev_var rfl) ea_nil) (ex_l e1 hq) (fun i σ' H' => ∃ y5 y6 y7 y8, σ' = [some (.ref c), some (nV wd), some (.ref g), some (.ref q), some (.ref l), y5, y6, y7, y8] ∧ Ex H H' ∧ H' l = some (.lst ((pst wd x y u v cs a i).map nV)))
      (fun H2 e2 => ⟨none, none, none, none, rfl, e1.trans e2, by rw [pst_zero]; exact e2 _ _ h1⟩) (fun i σ' H' _ hP => ?_) (fun i z p σ' H' hi np hP => ?_) (fun σ' H' hP => ?_)
    · obtain ⟨_, _, _, _, _, ee, _⟩ := hP
      exact ex_l ee hq
    · obtain ⟨y5, y6, y7, y8, rfl, ee, hl⟩ := hP
      obtain ⟨n, hn, rfl⟩ := nv_at hi
      have hi2 : i < u * v := by
        have := (List.getElem?_eq_some_iff.mp hn).1
        omega
      obtain ⟨s1, _, _, s4, s5⟩ := spot hx hy hi2
      refine eg_tup2 (st_of upd_same) _ ?_
      have en : Ex H' (upd H' p (.tup [nV i, nV n])) := Ex.new np
      generalize upd H' p (.tup [nV i, nV n]) = H2 at en ⊢
      have e2 := ee.trans en
      refine q_asg (v := nV (x + i % u)) (ev_op (ix 0 x rfl e2 rfl) (ev_op (ev_var (v := nV i) rfl) (ix 2 u rfl e2 rfl) (rv_modN (by omega))) rv_addN) fun H3 e3 => ?_
      refine q_asg (v := nV (y + i / u)) (ev_op (ix 1 y rfl (e2.trans e3) rfl) (ev_op (ev_var (v := nV i) rfl) (ix 2 u rfl (e2.trans e3) rfl) (rv_divN (by omega) (by omega))) rv_addN) fun H4 e4 => ?_
      have e14 := en.trans (e3.trans e4)
      have s5' : y + i / u ≤ 4294967296 := Nat.le_trans (Nat.add_le_add_left (Nat.le_of_lt s5) y) (by omega)
      refine s_setL (j := (y + i / u) * wd + (x + i % u)) (xs := (pst wd x y u v cs a i).map nV) (e14 _ _ hl) (v := nV n) (ev_var rfl) (ev_var rfl) (ev_op (ev_op (ev_var (v := nV (y + i / u)) rfl) (ev_var (v := nV wd) rfl) (rv_mulN s5')) (ev_var (v := nV (x + i % u)) rfl) rv_addN) (by rw [List.length_map, pst_len, la]; exact s1) fun H5 e5 => ⟨_, _, _, _, rfl, ?_, ?_⟩
      · exact (ee.trans (e14.trans e5)).mut nl
      · rw [upd_same, ← pst_step la hx hy hi2, getD_of hn, List.map_set]
    · obtain ⟨y5, y6, y7, y8, rfl, ee, hl⟩ := hP
      rw [List.length_map, lcs, pst_all] at hl
      exact s_ret (ev_var rfl) fun H2 e2 => k l H2 nl (ee.trans e2) (e2 _ _ hl)

/-! ### is_head -/
def headOk (l : List Nat) (wd ht : Nat) : Bool := decide (5 ≤ l.length) && ((decide (1 ≤ l.getD 0 0) && decide (l.getD 0 0 ≤ 1000)) && (decide (l.getD 1 0 + l.getD 3 0 ≤ wd) && decide (l.getD 2 0 + l.getD 4 0 ≤ ht)))
def spHead (K : PySem.W.Frag) : Sp := fun vs H Q _ => ∃ (g : Addr) (l : List Nat) (wd ht : Nat), vs = [.ref g, nV wd, nV ht] ∧ SqL K H g (l.map nV) ∧ RetV (.bl (headOk l wd ht)) H Q
theorem ok_is_head {f : Addr} {fd : FuncData} (T : Txt mg) (F : C8.Def K mg "is_head" s_is_head f fd) (b : Binds K fd ["head", "width", "height"] []) : C8.Cal P w K mg base 1 "is_head" (spHead K) [] := by
  refine C8.cal0 F b .nil sc_is_head (fun vs H Q E h => ?_) (fun cdv A outer s H vs Q E hr h => ?_)
  · obtain ⟨g, l, wd, ht, rfl, _⟩ := h; rfl
  · obtain ⟨g, l, wd, ht, rfl, hg, k⟩ := h
    refine ⟨_, (pss_cons (ps_if (pt_cmpR op_lt (pe_callB call_len_seq (by rfl) T.b_len PySem.boot_len (pa_cons (pv 0) pa_nil)) (C8.pe_gc rfl T.c_HEAD) (nomark _))
        (pss_one (ps_ret pe_bl))
        pss_nil)
      (pss_one (ps_ret (pe_and (pe_chain op_le op_le pe_int (pe_ix ix_list (pv 0) pe_int (fun _ _ => rfl)) (C8.pe_gc rfl T.c_MOST_TICKS)) (pe_and (pe_cmpR op_le (pe_op op_add (pe_ix ix_list (pv 0) pe_int (fun _ _ => rfl)) (pe_ix ix_list (pv 0) pe_int (fun _ _ => rfl))) (pv 1) (nomark _)) (pe_one (pe_cmpR op_le (pe_op op_add (pe_ix ix_list (pv 0) pe_int (fun _ _ => rfl)) (pe_ix ix_list (pv 0) pe_int (fun _ _ => rfl))) (pv 2) (nomark _)))))))), ?_⟩
    refine q_when (et_test (ev_op (ev_is (ev_lenL (ev_var rfl) hg) (by rw [List.length_map])) (ev_c (v := nV 5)) rv_ltN)) (fun hb H1 e1 => ?_) (fun hb H1 e1 => ?_)
    · have hlt := of_decide_eq_true hb
      have e0 : headOk l wd ht = false := by
        unfold headOk
        rw [decide_eq_false (by omega : ¬ 5 ≤ l.length), Bool.false_and]
      rw [e0] at k
      exact s_ret ev_c fun H2 e2 => k H2 (e1.trans e2)
    · have hge := of_decide_eq_false hb
      obtain ⟨t, x, y, u, v, r, rfl⟩ := five (l := l) (by omega)
      have e0 : headOk (t :: x :: y :: u :: v :: r) wd ht = ((decide (1 ≤ t) && decide (t ≤ 1000)) && (decide (x + u ≤ wd) && decide (y + v ≤ ht))) := by
        unfold headOk
        rw [decide_eq_true (by omega : 5 ≤ (t :: x :: y :: u :: v :: r).length), Bool.true_and]
        rfl
      rw [e0] at k
      have ix : ∀ (j n : Nat), ((t :: x :: y :: u :: v :: r).map nV)[j]? = some (nV n) → Ev (tOp (rIxL K) (tVar 0) (tC (nV j))) (start ["head", "width", "height"] [V.ref g, nV wd, nV ht]) H1 (nV n) := fun j n h => ev_op (ev_var rfl) ev_c (rv_ixLN (ex_l e1 hg) h)
      exact s_ret (ev_andV (ev_chain (ev_c (v := nV 1)) (ix 0 t rfl) rv_leN fun _ => ⟨ev_c (v := nV 1000), rv_leN⟩) fun _ => ev_andV (ev_op (ev_op (ix 1 x rfl) (ix 3 u rfl) rv_addN) (ev_var (v := nV wd) rfl) rv_leN) fun _ => ev_op (ev_op (ix 2 y rfl) (ix 4 v rfl) rv_addN) (ev_var (v := nV ht) rfl) rv_leN) fun H2 e2 => k H2 (e1.trans e2)

/-! ### read_from -/
def RetR (S : Addr → Prop) (wd ht : Nat) (r : Option (List (Nat × Ie12.Change))) (H : Hp) (Q : VK) : Prop := match r with
  | none => RetV .non H Q
  | some c => RetF S (Ie12.framesOf wd (Ie12.blank wd ht) c) H Q
def spReadFrom (K : PySem.W.Frag) : Sp := fun vs H Q _ => ∃ (S : Addr → Prop) (g : Addr) (l : List Nat) (wd ht : Nat), vs = [.ref g, nV wd, nV ht] ∧ Kn S H ∧ SqL K H g (l.map nV) ∧ l.length ≤ 30000 ∧ 1 ≤ wd ∧ wd ≤ 6 ∧ 1 ≤ ht ∧ ht ≤ 6 ∧ RetR S wd ht (Ie12.changesOf wd ht (l.length + 1) l) H Q
theorem ok_read_from {f : Addr} {fd : FuncData} (T : Txt mg) (c_blank_cells : C8.Cal P w K mg base 1 "blank_cells" spCells []) (c_is_head : C8.Cal P w K mg base 1 "is_head" (spHead K) []) (c_pasted : C8.Cal P w K mg base 1 "pasted" (spPaste K) []) (F : C8.Def K mg "read_from" s_read_from f fd) (b : Binds K fd ["numbers", "width", "height"] []) : C8.Cal P w K mg base 2 "read_from" (spReadFrom K) [] := by
  refine C8.cal0 F b .nil sc_read_from (fun vs H Q E h => ?_) (fun cdv A outer s H vs Q E hr h => ?_)
  · obtain ⟨S, g, l, wd, ht, rfl, _⟩ := h; rfl
  · obtain ⟨S, g, l, wd, ht, rfl, hk, hg, hz, w1, w6, t1, t6, k⟩ := h
    refine ⟨_, (pss_cons (ps_set (i := 3) sc_read_from.nd rfl (.inl rfl) (pe_lst pa_nil))
      (pss_cons (ps_set (i := 4) sc_read_from.nd rfl (.inl rfl) (C8.pe_c c_blank_cells hr (by decide) rfl (pa_cons (pv 1) (pa_cons (pv 2) pa_nil))))
      (pss_cons (ps_set (i := 5) sc_read_from.nd rfl (.inl rfl) pe_int)
      (pss_cons (ps_while PassesOwn.never (pt_cmpR op_lt (pv 5) (pe_callB call_len_seq (by rfl) T.b_len PySem.boot_len (pa_cons (pv 0) pa_nil)) (nomark _))
        (pss_cons (ps_set (i := 6) sc_read_from.nd rfl (.inl rfl) (pe_slice sl_list (pv 0) (po_some (pv 5)) (po_some (pe_op op_add (pv 5) (C8.pe_gc rfl T.c_HEAD)))))
        (pss_cons (ps_if (pt_not (pt_val (C8.pe_c c_is_head hr (by decide) rfl (pa_cons (pv 6) (pa_cons (pv 1) (pa_cons (pv 2) pa_nil))))))
          (pss_one (ps_ret pe_non))
          pss_nil)
        (pss_cons (ps_set (i := 7) sc_read_from.nd rfl (.inl rfl) (pe_op op_add (pe_op op_add (pv 5) (C8.pe_gc rfl T.c_HEAD)) (pe_op op_mul (pe_ix ix_list (pv 6) pe_int (fun _ _ => rfl)) (pe_ix ix_list (pv 6) pe_int (fun _ _ => rfl)))))
        (pss_cons (ps_set (i := 8) sc_read_from.nd rfl (.inl rfl) (pe_slice sl_list (pv 0) (po_some (pe_op op_add (pv 5) (C8.pe_gc rfl T.c_HEAD))) (po_some (pv 7))))
        (pss_cons (ps_if (PW.pt (pw_or (pt_cmpR op_gt (pv 7) (pe_callB call_len_seq (by rfl) T.b_len PySem.boot_len (pa_cons (pv 0) pa_nil)) (nomark _)) (pw_or1 (pt_val (pe_callB (cr_any rfl) (by rfl) T.b_any (by decide +kernel) (pa_cons (pe_lc (own := [("number", 9)]) (g := gName 9) (tt := tYes) rfl sc_read_from.nd (pi_list (pv 8)) (blkOk_by (N := ["numbers", "width", "height", "frames", "cells", "at", "head", "behind", "inner", "number"]) (sc := C8.fnScope s_read_from) (by decide +kernel)) (fun _ _ _ _ _ => (pg_name (i := 9) sc_read_from.nd rfl (.inl rfl))) (fun _ _ _ _ _ => pts_nil) (fun _ _ _ _ _ => (pe_cmpR op_gt (pv 9) (C8.pe_gc rfl T.c_MOST_NUMBER) (nomark _)))) pa_nil))))))
          (pss_one (ps_ret pe_non))
          pss_nil)
        (pss_cons (ps_set (i := 4) sc_read_from.nd rfl (.inl rfl) (C8.pe_c c_pasted hr (by decide) rfl (pa_cons (pv 4) (pa_cons (pv 1) (pa_cons (pe_slice sl_list (pv 6) (po_some pe_int) po_none) (pa_cons (pv 8) pa_nil))))))
        (pss_cons (ps_expr (pe_bm PySem.F.plainAttrs_list PySem.F.slot_list_append PySem.F.type_list_append mt_append (pv 3) (pa_cons (pe_tup (pa_cons (pe_ix ix_list (pv 6) pe_int (fun _ _ => rfl)) (pa_cons (pv 4) pa_nil))) pa_nil)))
        (pss_one (ps_set (i := 5) sc_read_from.nd rfl (.inl rfl) (pv 7)))))))))))
      (pss_one (ps_ret (pv 3))))))), ?_⟩
    refine q_asgL (el_lst ea_nil (by decide)) fun fl H1 nfl e1 h1 => ?_
    refine q_asgL (xs := (Ie12.blank wd ht).map nV) (el_call (ea_cons (ev_var (v := nV wd) rfl) (ea_cons (ev_var (v := nV ht) rfl) ea_nil)) fun H2 _ Q q _ => ⟨wd, ht, rfl, w6, t6, q⟩) fun cb H2 ncb e2 h2 => ?_
    refine q_asg (v := nV 0) ev_c fun H3 e3 => ?_
    have e13 : Ex H H3 := (e1.trans e2).trans e3
    have ncb2 : ¬ With S fl cb := fun z => by
      rcases z with z | z
      · exact hk.ex e1 cb z ncb
      · rw [z, h1] at ncb; cases ncb
    refine q_while (fun m σ' H' => ∃ (at_ : Nat) (done : List (Nat × Ie12.Change)) (fuel : Nat) (cp : Addr) (qs : List AF) (y6 y7 y8 y9 : Option V), m = l.length - at_ ∧ σ' = [some (.ref g), some (nV wd), some (nV ht), some (.ref fl), some (.ref cp), some (nV at_), y6, y7, y8, y9] ∧ Ex H H' ∧ at_ ≤ l.length ∧ (l.drop at_).length < fuel ∧ Ie12.changesOf wd ht (l.length + 1) l = (Ie12.changesOf wd ht fuel (l.drop at_)).map (done ++ ·) ∧ H' fl = some (.lst (qs.map rf)) ∧ qs.map (·.2) = Ie12.framesOf wd (Ie12.blank wd ht) done ∧ FrsOf (With S fl) H' qs ∧ Pic (With S fl) H' cp (lastPic wd (Ie12.blank wd ht) done) ∧ qs.length ≤ at_)
      l.length ⟨0, [], l.length + 1, cb, [], none, none, none, none, rfl, rfl, e13, Nat.zero_le _, by rw [List.drop_zero]; omega, ?_, (e2.trans e3) _ _ h1, rfl, fun p hp => (by cases hp), ⟨ncb2, e3 _ _ h2⟩, Nat.le_refl _⟩ (fun m σ' H' hW => ?_)
    · rw [List.drop_zero]
      cases Ie12.changesOf wd ht (l.length + 1) l <;> rfl
    · obtain ⟨at_, done, fuel, cp, qs, y6, y7, y8, y9, rfl, rfl, ee, hat, hfuel, hco, hfl, hqs, hfq, hcp, hql⟩ := hW
      have hlen : ∀ {H0}, Ex H' H0 → ∀ {σ' : L2.St}, σ'[0]? = some (some (.ref g)) → Ev (tCB (rLenS K) (tCons (tVar 0) tNil)) σ' H0 (nV l.length) := fun e0 σ' hs => ev_is (ev_lenL (ev_var hs) (ex_l (ee.trans e0) hg)) (by rw [List.length_map])
      refine ⟨decide (at_ < l.length), et_test (ev_op (ev_var (v := nV at_) rfl) (hlen (Ex.refl H') rfl) rv_ltN), fun hb H4 e4 => ?_, fun hb H4 e4 => ?_⟩
      · have hlt := of_decide_eq_true hb
        refine ⟨fun σ2 H5 => ∃ (at2 : Nat) (done : List (Nat × Ie12.Change)) (fuel : Nat) (cp : Addr) (qs : List AF) (y6 y7 y8 y9 : Option V), at_ < at2 ∧ σ2 = [some (.ref g), some (nV wd), some (nV ht), some (.ref fl), some (.ref cp), some (nV at2), y6, y7, y8, y9] ∧ Ex H H5 ∧ at2 ≤ l.length ∧ (l.drop at2).length < fuel ∧ Ie12.changesOf wd ht (l.length + 1) l = (Ie12.changesOf wd ht fuel (l.drop at2)).map (done ++ ·) ∧ H5 fl = some (.lst (qs.map rf)) ∧ qs.map (·.2) = Ie12.framesOf wd (Ie12.blank wd ht) done ∧ FrsOf (With S fl) H5 qs ∧ Pic (With S fl) H5 cp (lastPic wd (Ie12.blank wd ht) done) ∧ qs.length ≤ at2, fun σ2 H5 hN => ?_, ?_⟩
        · obtain ⟨at2, d2, f2, c2, q2, z6, z7, z8, z9, g1, g2, g3⟩ := hN
          exact ⟨l.length - at2, by omega, at2, d2, f2, c2, q2, z6, z7, z8, z9, rfl, g2, g3⟩
        · -- head = numbers[at:at + HEAD]
          have e04 := ee.trans e4
          refine q_asgL (xs := ((l.drop at_).take 5).map nV) (el_is (el_sl (ev_var rfl) (eo_nat (i := at_) (ev_var rfl)) (eo_nat (ev_op (ev_var (v := nV at_) rfl) (ev_c (v := nV 5)) rv_addN)) (ex_l e04 hg)) (by rw [cut_part _ _ _ (by omega), ← List.map_drop, ← List.map_take, Nat.add_sub_cancel_left])) fun hd H5 nhd e5 h5 => ?_
          have ldr : (l.drop at_).length = l.length - at_ := List.length_drop
          obtain ⟨fu, rfl⟩ : ∃ fu, fuel = fu + 1 := ⟨fuel - 1, by omega⟩
          refine q_when (b := !headOk ((l.drop at_).take 5) wd ht) (et_not (et_B (ev_call (ea_cons (ev_var (v := .ref hd) rfl) (ea_cons (ev_var (v := nV wd) rfl) (ea_cons (ev_var (v := nV ht) rfl) ea_nil))) fun H6 e6 Q q _ => ⟨hd, _, wd, ht, rfl, sq_of (e6 _ _ h5), q⟩))) (fun hb1 H6 e6 => ?_) (fun hb1 H6 e6 => ?_)
          · -- not a head
            have hno : Ie12.changesOf wd ht (fu + 1) (l.drop at_) = none := by
              by_cases h5 : (l.drop at_).length < 5
              · exact co_short (fun z => by rw [z] at ldr; simp at ldr; omega) h5
              · obtain ⟨t, x, y, u, v, r, hr⟩ := five (l := l.drop at_) (by omega)
                rw [hr] at hb1 ⊢
                rw [co_cons, if_pos]
                have hb2 : ((decide (1 ≤ t) && decide (t ≤ 1000)) && (decide (x + u ≤ wd) && decide (y + v ≤ ht))) = false := by
                  have : headOk ((t :: x :: y :: u :: v :: r).take 5) wd ht = (true && ((decide (1 ≤ t) && decide (t ≤ 1000)) && (decide (x + u ≤ wd) && decide (y + v ≤ ht)))) := rfl
                  rw [this, Bool.true_and] at hb1
                  rw [Bool.not_eq_true'] at hb1; exact hb1
                have hT : Ie12.TICKS = 1000 := rfl
                rw [Bool.and_eq_false_iff, Bool.and_eq_false_iff, Bool.and_eq_false_iff, decide_eq_false_iff_not, decide_eq_false_iff_not, decide_eq_false_iff_not, decide_eq_false_iff_not] at hb2
                omega
            rw [hco, hno] at k
            exact s_ret ev_c fun H7 e7 => k H7 (((e04.trans e5).trans e6).trans e7)
          · have hb1 : headOk ((l.drop at_).take 5) wd ht = true := by simpa using hb1
            have h5l : 5 ≤ (l.drop at_).length := by
              unfold headOk at hb1
              rw [Bool.and_eq_true, decide_eq_true_eq, List.length_take] at hb1
              omega
            obtain ⟨t, x, y, u, v, r, hr⟩ := five h5l
            rw [hr] at hb1 h5 hco hfuel
            have hb2 : ((decide (1 ≤ t) && decide (t ≤ 1000)) && (decide (x + u ≤ wd) && decide (y + v ≤ ht))) = true := by
              have : headOk ((t :: x :: y :: u :: v :: r).take 5) wd ht = (true && ((decide (1 ≤ t) && decide (t ≤ 1000)) && (decide (x + u ≤ wd) && decide (y + v ≤ ht)))) := rfl
              rw [this, Bool.true_and] at hb1
              exact hb1
            rw [Bool.and_eq_true, Bool.and_eq_true, Bool.and_eq_true, decide_eq_true_eq, decide_eq_true_eq, decide_eq_true_eq, decide_eq_true_eq] at hb2
            have h5 : H5 hd = some (.lst [nV t, nV x, nV y, nV u, nV v]) := h5
            have hr5 : l.drop (at_ + 5) = r := by rw [← List.drop_drop, hr]; rfl
            have lr : r.length + 5 = l.length - at_ := by rw [← ldr, hr]; rfl
            have huv : u * v ≤ 36 := Nat.le_trans (Nat.mul_le_mul (show u ≤ 6 by omega) (show v ≤ 6 by omega)) (by decide)
            have e56 := e5.trans e6
            have ix : ∀ {σ' : L2.St} {H3 : Hp} (j n : Nat), σ'[6]? = some (some (.ref hd)) → Ex H6 H3 → [nV t, nV x, nV y, nV u, nV v][j]? = some (nV n) → Ev (tOp (rIxL K) (tVar 6) (tC (nV j))) σ' H3 (nV n) := fun j n hs e h => ev_op (ev_var hs) ev_c (rv_ixLN (sq_of (e _ _ (e6 _ _ h5))) h)
            refine q_asg (v := nV (at_ + 5 + u * v)) (ev_op (ev_op (ev_var (v := nV at_) rfl) (ev_c (v := nV 5)) rv_addN) (ev_op (ix 3 u rfl (Ex.refl H6) rfl) (ix 4 v rfl (Ex.refl H6) rfl) (rv_mulN (by omega))) rv_addN) fun H7 e7 => ?_
            have e07 : Ex H H7 := (e04.trans e56).trans e7
            refine q_asgL (xs := (r.take (u * v)).map nV) (el_is (el_sl (ev_var rfl) (eo_nat (ev_op (ev_var (v := nV at_) rfl) (ev_c (v := nV 5)) rv_addN)) (eo_nat (i := at_ + 5 + u * v) (ev_var rfl)) (ex_l e07 hg)) (by rw [cut_part _ _ _ (by omega), ← List.map_drop, ← List.map_take, hr5, Nat.add_sub_cancel_left])) fun inn H8 ninn e8 h8 => ?_
            have e48 : Ex H4 H8 := (e56.trans e7).trans e8
            have ltk : (r.take (u * v)).length ≤ 36 := by rw [List.length_take]; omega
            refine q_when (b := decide (l.length < at_ + 5 + u * v) || (r.take (u * v)).any (fun n => decide (255 < n))) (et_or (et_test (ev_op (ev_var (v := nV (at_ + 5 + u * v)) rfl) (hlen (e4.trans e48) rfl) rv_gtN)) fun _ => et_is (et_B (ev_any (bs := (r.take (u * v)).map fun n => decide (255 < n)) (el_is (el_lcG (r.take (u * v)) nV (fun n => V.bl (decide (255 < n))) (fun _ => true) (ev_var rfl) (sq_of h8) (by omega) (fun n _ H9 e9 => ⟨_, eg_name, rfl, et_yes, fun _ => ev_op (ev_var (v := nV n) rfl) (ev_c (v := nV 255)) rv_gtN⟩)) (by rw [filter_true, List.map_map]; rfl)))) (by rw [List.any_map]; rfl)) (fun hb3 H9 e9 => ?_) (fun hb3 H9 e9 => ?_)
            · have hno : Ie12.changesOf wd ht (fu + 1) (t :: x :: y :: u :: v :: r) = none := by
                rw [co_cons, if_pos]
                rw [Bool.or_eq_true, decide_eq_true_eq] at hb3
                rcases hb3 with hb3 | hb3
                · exact .inr (.inr (.inr (.inr (.inl (by omega)))))
                · exact .inr (.inr (.inr (.inr (.inr hb3))))
              rw [hco, hno] at k
              exact s_ret ev_c fun H10 e10 => k H10 (((e07.trans e8).trans e9).trans e10)
            · rw [Bool.or_eq_false_iff, decide_eq_false_iff_not] at hb3
              have hT : Ie12.TICKS = 1000 := rfl
              have hyes : Ie12.changesOf wd ht (fu + 1) (t :: x :: y :: u :: v :: r) = (Ie12.changesOf wd ht fu (r.drop (u * v))).map fun z => (t, ⟨x, y, u, v, r.take (u * v)⟩) :: z := by
                rw [co_cons, if_neg]
                rw [hb3.2]
                have h31 := hb3.1
                simp only [Bool.false_eq_true, or_false]
                omega
              rw [hyes, Option.map_map] at hco
              have e09 : Ex H H9 := (e07.trans e8).trans e9
              have e49 : Ex H4 H9 := e48.trans e9
              have e69 : Ex H6 H9 := (e7.trans e8).trans e9
              have lcs : (r.take (u * v)).length = u * v := by rw [List.length_take]; omega
              have hcp9 := hcp.go (.ex (e4.trans e49))
              -- cells = pasted(cells, width, head[1:], inner)
              refine q_asgL (xs := (Ie12.changed wd (lastPic wd (Ie12.blank wd ht) done) ⟨x, y, u, v, r.take (u * v)⟩).map nV) (el_call4 (x := .ref cp) (y := nV wd) (z := .ref inn) (xs := [nV x, nV y, nV u, nV v]) (ev_var rfl) (ev_var rfl) (el_is (el_sl (ev_var rfl) (eo_nat (i := 1) ev_c) eo_none (sq_of (e69 _ _ (e6 _ _ h5)))) (by rw [cut_from]; rfl)) (ev_var rfl) fun p H10 e10 hp Q q => ⟨cp, p, inn, _, _, wd, ht, x, y, u, v, rfl, e10 _ _ hcp9.2, sq_of hp, sq_of ((e9.trans e10) _ _ h8), by rw [lastPic_len, blank_len], lcs, by omega, by omega, w6, t6, q⟩) fun c2 H10 nc2 e10 h10 => ?_
              have e010 := e09.trans e10
              have hfl10 := (e4.trans (e49.trans e10)) _ _ hfl
              have nc2f : ¬ With S fl c2 := fun z => by
                rcases z with z | z
                · exact hk.ex e09 c2 z nc2
                · rw [z, (e4.trans e49) _ _ hfl] at nc2; cases nc2
              refine q_appU hfl10 (ev_var rfl) (eu_tup (ea_cons (ix 0 t rfl (e69.trans e10) rfl) (ea_cons (ev_var (v := .ref c2) rfl) ea_nil)) (by simp)) (by rw [List.length_map]; omega) fun tp H11 ntp e11 h11 => ?_
              refine s_asg (v := nV (at_ + 5 + u * v)) (ev_var rfl) fun H12 e12 => ?_
              have ntf : ¬ With S fl tp := fun z => by
                rcases z with z | z
                · exact hk.ex e010 tp z ntp
                · rw [z, hfl10] at ntp; cases ntp
              have keep : ∀ b o, b ≠ fl → H10 b = some o → H12 b = some o := fun b o nb hb => e12 _ _ (by rw [upd_ne nb]; exact e11 _ _ hb)
              have hc12 : Pic (With S fl) H12 c2 (Ie12.changed wd (lastPic wd (Ie12.blank wd ht) done) ⟨x, y, u, v, r.take (u * v)⟩) := ⟨nc2f, keep _ _ (fun z => nc2f (.inr z)) h10⟩
              refine ⟨at_ + 5 + u * v, done ++ [(t, ⟨x, y, u, v, r.take (u * v)⟩)], fu, c2, qs ++ [(tp, ⟨Ie12.changed wd (lastPic wd (Ie12.blank wd ht) done) ⟨x, y, u, v, r.take (u * v)⟩, t⟩)], _, _, _, _, by omega, rfl, ?_, by omega, ?_, ?_, e12 _ _ ?_, ?_, FrsOf.append ?_ (FrsOf.one ⟨ntf, c2, e12 _ _ ?_, hc12⟩), ?_, ?_⟩
              · exact fun b o hb => keep b o (ne_of_none hb nfl) (e010 _ _ hb)
              · rw [List.length_drop]
                rw [List.length_cons, List.length_cons, List.length_cons, List.length_cons, List.length_cons] at hfuel
                omega
              · rw [hco, ← List.drop_drop, hr5]
                congr 1
                funext z
                show done ++ (_ :: z) = (done ++ [_]) ++ z
                rw [List.append_assoc]
                rfl
              · rw [upd_same, List.map_append]; rfl
              · rw [List.map_append, framesOf_snoc, hqs]; rfl
              · exact hfq.go ⟨fun b o hb ns => keep b o (fun z => ns (.inr z)) ((e4.trans (e49.trans e10)) _ _ hb), fun b sb => .inl sb⟩
              · rw [upd_ne (fun z => ntf (.inr z))]; exact h11
              · rw [lastPic_snoc]; exact hc12
              · rw [List.length_append, List.length_singleton]; omega
      · have hge := of_decide_eq_false hb
        obtain ⟨fu, rfl⟩ : ∃ fu, fuel = fu + 1 := ⟨fuel - 1, by omega⟩
        rw [List.drop_eq_nil_of_le (by omega)] at hco
        have : Ie12.changesOf wd ht (fu + 1) [] = some [] := rfl
        rw [hco, this] at k
        have k : RetF S (Ie12.framesOf wd (Ie12.blank wd ht) (done ++ [])) H Q := k
        rw [List.append_nil] at k
        exact s_ret (ev_var rfl) fun H5 e5 => k fl H5 nfl ((ee.trans e4).trans e5) ⟨qs, hqs, hk.ne nfl, (e4.trans e5) _ _ hfl, (hfq.go ⟨fun b o h _ => h, fun b sb => .inl (.inl sb)⟩).ex (e4.trans e5)⟩
end
end FF

set_option Elab.async false
set_option linter.all false
set_option maxRecDepth 100000
set_option maxHeartbeats 2000000
namespace FF
open PySem PySem.Spec PyProof.Rows L2 Evl RT

/-! ### list(reversed(xs)), xs a list: a rule of our own -/
section
variable {prog : Program} {w : World} {A : Around} {E : Value → Shared → Prop} {s : Shared}
/-- the reversed walk poured into the empty list at n -/
theorem pour_rev {R : Result → Shared → Prop} {it l n : Addr} {xs : Array Value} (res : Value) (c0 : Nat) (hh : A.handled = none) (hit : s.heap.IsRevIter it l ((xs.size : Int) - 1)) (hl : s.heap.IsList l xs) (hne : l ≠ it) (hz : xs.size ≤ sizeLine)
    (hni : n ≠ it) (hnl : n ≠ l) (hn : s.heap.get? n = some { cls := .type "list", data := .seq #[] c0 })
    (hR : ∀ (h' : Heap) (tk : Nat) (acc : Array Value) (c' : Nat), (∀ b o, b ≠ n → b ≠ it → s.heap.get? b = some o → h'.get? b = some o) → h'.get? n = some { cls := .type "list", dict := none, data := .seq acc c', slots := #[] } →
      ItemsOf (fun i v => xs[xs.size - 1 - i]? = some v) acc xs.size → R (.ok (.ret res)) { s with heap := h', toks := tk }) :
    wpAny (model prog w) A.in1 (Builtin.List.listExtendWith (.ref n) (.ref it) res) (fun fin s' => match fin with
      | .done f => R (.ok f) s'
      | .again c' => c'.quiet = true ∧ codeAny (model prog w) A c' R s') (fun e s' => R (.error e) s') s := by
  have walk := (Walks.listRev (prog := prog) (w := w) (A := A.in1) hh it l hne xs).toS
  have nin : n ∉ [it, l] := by
    simp only [List.mem_cons, List.not_mem_nil, or_false, not_or]
    exact ⟨hni, hnl⟩
  have ty : s.TypeIs (.ref it) "list_reverseiterator" := Heap.IsRevIter.typeIs hit
  have apart : Builtin.List.listSameRef (.ref n) (.ref it) = false := by simp [Builtin.List.listSameRef, hni]
  have start0 : ((xs.size : Nat) : Int) - 1 - ((0 : Nat) : Int) = (xs.size : Int) - 1 := by omega
  have go : ∀ (h : Heap) (c1 tk : Nat), (∀ b o, b ≠ n → s.heap.get? b = some o → h.get? b = some o) → h.get? n = some { cls := .type "list", data := .seq #[] c1 } →
      codeAny (model prog w) A (.builtin "list.extend.loop" ⟨[.ref n, .ref it, res], []⟩) R { s with heap := h, toks := tk } := by
    intro h c1 tk keep hn1
    refine codeAny_extend_loopS walk hz n nin res xs.size 0 _ #[] c1 rfl (Nat.zero_le _) ⟨Nat.zero_le _, by rw [start0]; exact hit.at fun o e => keep it o (Ne.symm hni) e, hl.at fun o e => keep l o (Ne.symm hnl) e⟩ hn1 (ItemsOf.nil _) fun s' acc' c' hm hS' hacc => ?_
    rw [Moved.eq_with hm]
    refine hR s'.heap s'.toks acc' c' (fun b o hb hb2 e => hm.heap b o (fun hmem => ?_) (keep b o hb e)) hS' hacc
    rcases List.mem_cons.mp hmem with z | z
    · exact hb z
    · exact hb2 (List.mem_singleton.mp z)
  unfold Builtin.List.listExtendWith
  refine wpAny_bind (wpAny_typeOf ty ?_)
  rw [if_neg (by rw [apart]; decide)]
  refine wpAny_bind (wpAny_pyIter_revIter hit ?_)
  refine wpAny_bind (wpAny_holding ?_)
  unfold Builtin.List.listLengthHint
  refine wpAny_bind (wpAny_specialOf ty nolen_lri ?_)
  show wpAny _ A.in1 (specialOf (Value.ref it) (Str.ofString "__length_hint__") >>= _) _ _ _
  refine wpAny_bind (wpAny_specialOf ty hint_lri ?_)
  generalize hid : ("list_reverseiterator.__length_hint__" : String) = id0
  wp_delta
  rw [show splitId id0 = some ("list_reverseiterator", "__length_hint__") from by subst hid; decide +kernel]
  subst hid
  refine wpAny_bind (wpAny_isInstance (b := true) ty (by rw [isSubtype_type]; kernel_rfl) ?_)
  refine wpAny_pure ?_
  rw [if_neg (by decide)]
  exact wpAny_pure ⟨plainId_quiet F.plain_extend_loop _, go s.heap c0 s.toks (fun b o _ e => e) hn⟩
theorem init_rev {R : Result → Shared → Prop} {it l n : Addr} {xs : Array Value} (hh : A.handled = none) (hit : s.heap.IsRevIter it l ((xs.size : Int) - 1)) (hl : s.heap.IsList l xs) (hne : l ≠ it) (hz : xs.size ≤ sizeLine)
    (hni : n ≠ it) (hnl : n ≠ l) (hn : s.heap.get? n = some { cls := .type "list", data := .seq #[] })
    (hR : ∀ (h' : Heap) (tk : Nat) (acc : Array Value) (c' : Nat), (∀ b o, b ≠ n → b ≠ it → s.heap.get? b = some o → h'.get? b = some o) → h'.get? n = some { cls := .type "list", dict := none, data := .seq acc c', slots := #[] } →
      ItemsOf (fun i v => xs[xs.size - 1 - i]? = some v) acc xs.size → R (.ok (.ret .none)) { s with heap := h', toks := tk }) :
    wpAny (model prog w) A.in1 (Builtin.«list.__init__» ⟨[.ref n, .ref it], []⟩) (fun fin s' => match fin with
      | .done f => R (.ok f) s'
      | .again c' => c'.quiet = true ∧ codeAny (model prog w) A c' R s') (fun e s' => R (.error e) s') s := by
  show wpAny _ _ (do
    let old ← Builtin.List.listItems (.ref n)
    Builtin.List.listUpdate (.ref n) (fun _ => #[])
    letGo old.toList.reverse
    Builtin.List.listExtendWith (.ref n) (.ref it) .none) _ _ s
  refine wpAny_bind ?_
  unfold Builtin.List.listItems
  refine wpAny_bind (wpAny_seqItems hn rfl (wpAny_pure ?_))
  show wpAny _ _ (updateSeq n (fun _ => #[]) >>= fun _ => letGo (#[] : Array Value).toList.reverse >>= fun _ =>
    Builtin.List.listExtendWith (.ref n) (.ref it) .none) _ _ s
  refine wpAny_bind (wpAny_updateSeq hn rfl ?_)
  have now := Heap.get?_update_self (Obj.mapSeq (fun _ => (#[] : Array Value))) hn rfl
  have rest : ∀ b o, b ≠ n → s.heap.get? b = some o → (s.heap.update n (Obj.mapSeq (fun _ => (#[] : Array Value)))).get? b = some o := fun b o hb e =>
    (Heap.get?_update_other _ _ (Ne.symm hb)).trans e
  refine wpAny_bind (wpAny_letGo ?_)
  refine pour_rev .none _ hh (hit.at fun o e => rest it o (Ne.symm hni) e) (hl.at fun o e => rest l o (Ne.symm hnl) e) hne hz hni hnl now fun h' tk acc c' hk hS hacc => ?_
  exact hR h' tk acc c' (fun b o hb hb2 e => hk b o hb hb2 (rest b o hb e)) hS hacc
theorem call_rev {Q : Value → Shared → Prop} {it l : Addr} {xs : Array Value} (hh : A.handled = none) (hit : s.heap.IsRevIter it l ((xs.size : Int) - 1)) (hl : s.heap.IsList l xs) (hne : l ≠ it) (hz : xs.size ≤ sizeLine)
    (hQ : ∀ (h' : Heap) (tk : Nat) (acc : Array Value) (c' : Nat), (∀ b o, b ≠ it → s.heap.get? b = some o → h'.get? b = some o) → h'.get? s.heap.objs.size = some { cls := .type "list", dict := none, data := .seq acc c', slots := #[] } →
      ItemsOf (fun i v => xs[xs.size - 1 - i]? = some v) acc xs.size → Q (.ref s.heap.objs.size) { s with heap := h', toks := tk }) :
    wpAny (model prog w) A (call (.type "list") [.ref it]) Q E s := by
  refine callType_codes (Q₁ := fun obj s1 => obj = .ref s.heap.objs.size ∧ s1 = { s with heap := s.heap.push { cls := .type "list", data := .seq #[] } }) F.called_list (F.typeCall_list_1 _) F.entry_list_init (code_list_new _ ⟨rfl, rfl⟩) fun obj s1 h1 => ?_
  obtain ⟨rfl, rfl⟩ := h1
  obtain ⟨oi, hoi, _⟩ := id hit
  obtain ⟨ol, hol, _⟩ := id hl
  have made : (s.heap.push { cls := .type "list", data := .seq #[] }).get? s.heap.objs.size = some { cls := .type "list", data := .seq #[] } := Heap.get?_push_size _ rfl
  refine ⟨⟨_, made, rfl⟩, F.args_list_init_2 _ _, init_rev (A := A.in1) hh (hit.at fun o e => Heap.get?_push_of_some _ e) (hl.push _) hne hz (Nat.ne_of_gt (Heap.lt_size hoi)) (Nat.ne_of_gt (Heap.lt_size hol)) made fun h' tk acc c' hk hS hacc => ?_⟩
  exact ⟨rfl, hQ h' tk acc c' (fun b o hb e => hk b o (Nat.ne_of_lt (Heap.lt_size e)) hb (Heap.get?_push_of_some _ e)) hS hacc⟩
end
/-- what it asks: a list; it gives a new one, the other way round -/
def tLstRev (K : PySem.W.Frag) (te : TE) : TE := fun σ H Q => te σ H fun v H1 => ∃ (a : Addr) (xs : List V), v = .ref a ∧ SqL K H1 a xs ∧ ∀ q, H1 q = none → Q (.ref q) (upd H1 q (.lst xs.reverse))
theorem pe_lstRev {X : Cx} {e : Expr} {te : TE} {p p2 pos pos2 : Pos} (hc : X.calm = true) (hg : Gl X "list") (hm : X.mg "list" = none) (hg2 : Gl X "reversed") (hm2 : X.mg "reversed" = none) (he : PE X e te)
    (hs : starEach [e] X.env = (false, eval e X.env) :: starEach [] X.env := by rfl)
    (hs2 : starEach [.Call (.Name "reversed" p2) [e] [] pos2] X.env = (false, eval (.Call (.Name "reversed" p2) [e] [] pos2) X.env) :: starEach [] X.env := by rfl) :
    PE X (.Call (.Name "list" p) [.Call (.Name "reversed" p2) [e] [] pos2] [] pos) (tLstRev X.K te) := by
  refine ⟨fun pins s σ H Q I h => ?_⟩
  refine Call_ (ld_blt I hg hm boot_list (PyProof.Rows.callWith_type1 (args_cons (Call_ (ld_blt I hg2 hm2 PyProof.Rows.boot_reversed (PyProof.Rows.callWith_type1 (args_cons (thn (he.run pins s σ H _ I h) fun u s1 ⟨v, H1, I1, r1, q1⟩ =>
    args_nil ?_) hs) hs rfl))) hs2) hs2))
  obtain ⟨a, xs, rfl, hq, q⟩ := q1
  obtain rfl : u = Value.ref a := r1
  obtain ⟨its, rv, p', hz⟩ := I1.list hq
  refine call_reversed_list p'.isList (args_nil ?_)
  have hl := p'.isList
  obtain ⟨ol, hol, _⟩ := id hl
  have pushed : ∀ b o, s1.heap.get? b = some o → (s1.heap.push (revObj a ((its.toArray.size : Int) - 1))).get? b = some o := fun b o e =>
    Heap.get?_push_of_some _ e
  have small : its.toArray.size ≤ sizeLine := by
    rw [List.size_toArray, ← rv.length]
    exact hz
  refine call_rev (s := { s1 with heap := s1.heap.push (revObj a ((its.toArray.size : Int) - 1)) }) (I1.ok.hd hc) ⟨_, Heap.get?_push_size _ rfl, rfl, rfl⟩ (hl.push _) (Nat.ne_of_lt (Heap.lt_size hol)) small fun h' tk acc c' hk hS hi => ?_
  have above : s1.heap.objs.size ≤ (s1.heap.push (revObj a ((its.toArray.size : Int) - 1))).objs.size := by
    rw [Heap.size_push]
    exact Nat.le_succ _
  have I3 := I1.laid (t' := tk) (h' := h') (o := .lst xs.reverse) (fun b o e => hk b o (Nat.ne_of_lt (Heap.lt_size e)) (pushed b o e)) above ⟨by rw [List.length_reverse]; exact hz, acc.toList, c', vals_rev rv hi, by rw [Array.toArray_toList]; exact hS⟩
  exact ⟨.ref (s1.heap.push (revObj a ((its.toArray.size : Int) - 1))).objs.size, _, I3, rfl, q _ (I1.hok.fresh above)⟩
end FF

set_option Elab.async false
set_option linter.all false
set_option maxRecDepth 100000
set_option maxHeartbeats 2000000
namespace FF
open PySem PySem.Spec PyProof.Rows L2 Evl
/-! ### a film in the heap -/
def fF (w h g : Nat) (fa pa : Addr) : List (Str × V) := [("width", nV w), ("height", nV h), ("goes_on", nV g), ("frames", .ref fa), ("past", .ref pa)]
theorem lk_at {k : Str} {v : V} {r : List (Str × V)} : List.lookup k ((k, v) :: r) = some v := by
  rw [List.lookup_cons, beq_self_eq_true]
theorem lk_on {k g : Str} {v : V} {r : List (Str × V)} (h : (k == g) = false) : List.lookup k ((g, v) :: r) = List.lookup k r := by
  rw [List.lookup_cons, h]
theorem pf_at {f : Str} {v x : V} {r : List (Str × V)} : putF f v ((f, x) :: r) = (f, v) :: r := if_pos rfl
theorem pf_on {f g : Str} {v x : V} {r : List (Str × V)} (h : ¬ g = f) : putF f v ((g, x) :: r) = (g, x) :: putF f v r := if_neg h
section
variable (w h g : Nat) (fa pa : Addr)
theorem fF_width : List.lookup ("width" : Str) (fF w h g fa pa) = some (nV w) := lk_at
theorem fF_height : List.lookup ("height" : Str) (fF w h g fa pa) = some (nV h) := (lk_on (by decide +kernel)).trans (lk_at)
theorem fF_goes_on : List.lookup ("goes_on" : Str) (fF w h g fa pa) = some (nV g) := (lk_on (by decide +kernel)).trans ((lk_on (by decide +kernel)).trans (lk_at))
theorem fF_frames : List.lookup ("frames" : Str) (fF w h g fa pa) = some (.ref fa) := (lk_on (by decide +kernel)).trans ((lk_on (by decide +kernel)).trans ((lk_on (by decide +kernel)).trans (lk_at)))
theorem fF_past : List.lookup ("past" : Str) (fF w h g fa pa) = some (.ref pa) := (lk_on (by decide +kernel)).trans ((lk_on (by decide +kernel)).trans ((lk_on (by decide +kernel)).trans ((lk_on (by decide +kernel)).trans (lk_at))))
theorem fF_no_begin : List.lookup ("begin" : Str) (fF w h g fa pa) = none := (lk_on (by decide +kernel)).trans ((lk_on (by decide +kernel)).trans ((lk_on (by decide +kernel)).trans ((lk_on (by decide +kernel)).trans ((lk_on (by decide +kernel)).trans (rfl)))))
theorem fF_no_remember : List.lookup ("remember" : Str) (fF w h g fa pa) = none := (lk_on (by decide +kernel)).trans ((lk_on (by decide +kernel)).trans ((lk_on (by decide +kernel)).trans ((lk_on (by decide +kernel)).trans ((lk_on (by decide +kernel)).trans (rfl)))))
theorem fF_no_extent : List.lookup ("extent" : Str) (fF w h g fa pa) = none := (lk_on (by decide +kernel)).trans ((lk_on (by decide +kernel)).trans ((lk_on (by decide +kernel)).trans ((lk_on (by decide +kernel)).trans ((lk_on (by decide +kernel)).trans (rfl)))))
theorem fF_no_change_frames : List.lookup ("change_frames" : Str) (fF w h g fa pa) = none := (lk_on (by decide +kernel)).trans ((lk_on (by decide +kernel)).trans ((lk_on (by decide +kernel)).trans ((lk_on (by decide +kernel)).trans ((lk_on (by decide +kernel)).trans (rfl)))))
theorem fF_no_change_goes_on : List.lookup ("change_goes_on" : Str) (fF w h g fa pa) = none := (lk_on (by decide +kernel)).trans ((lk_on (by decide +kernel)).trans ((lk_on (by decide +kernel)).trans ((lk_on (by decide +kernel)).trans ((lk_on (by decide +kernel)).trans (rfl)))))
theorem fF_no_has_frame : List.lookup ("has_frame" : Str) (fF w h g fa pa) = none := (lk_on (by decide +kernel)).trans ((lk_on (by decide +kernel)).trans ((lk_on (by decide +kernel)).trans ((lk_on (by decide +kernel)).trans ((lk_on (by decide +kernel)).trans (rfl)))))
theorem fF_no_change_size : List.lookup ("change_size" : Str) (fF w h g fa pa) = none := (lk_on (by decide +kernel)).trans ((lk_on (by decide +kernel)).trans ((lk_on (by decide +kernel)).trans ((lk_on (by decide +kernel)).trans ((lk_on (by decide +kernel)).trans (rfl)))))
theorem fF_no_go_back : List.lookup ("go_back" : Str) (fF w h g fa pa) = none := (lk_on (by decide +kernel)).trans ((lk_on (by decide +kernel)).trans ((lk_on (by decide +kernel)).trans ((lk_on (by decide +kernel)).trans ((lk_on (by decide +kernel)).trans (rfl)))))
theorem fF_no_place_at : List.lookup ("place_at" : Str) (fF w h g fa pa) = none := (lk_on (by decide +kernel)).trans ((lk_on (by decide +kernel)).trans ((lk_on (by decide +kernel)).trans ((lk_on (by decide +kernel)).trans ((lk_on (by decide +kernel)).trans (rfl)))))
theorem pF_width (w' : Nat) : putF "width" (nV w') (fF w h g fa pa) = fF w' h g fa pa := pf_at
theorem pF_height (h' : Nat) : putF "height" (nV h') (fF w h g fa pa) = fF w h' g fa pa := (pf_on (by decide +kernel)).trans (congrArg _ (pf_at))
theorem pF_goes_on (g' : Nat) : putF "goes_on" (nV g') (fF w h g fa pa) = fF w h g' fa pa := (pf_on (by decide +kernel)).trans (congrArg _ ((pf_on (by decide +kernel)).trans (congrArg _ (pf_at))))
theorem pF_frames (fa' : Addr) : putF "frames" (.ref fa') (fF w h g fa pa) = fF w h g fa' pa := (pf_on (by decide +kernel)).trans (congrArg _ ((pf_on (by decide +kernel)).trans (congrArg _ ((pf_on (by decide +kernel)).trans (congrArg _ (pf_at))))))
theorem pF_past (pa' : Addr) : putF "past" (.ref pa') (fF w h g fa pa) = fF w h g fa pa' := (pf_on (by decide +kernel)).trans (congrArg _ ((pf_on (by decide +kernel)).trans (congrArg _ ((pf_on (by decide +kernel)).trans (congrArg _ ((pf_on (by decide +kernel)).trans (congrArg _ (pf_at))))))))
theorem nF_width : putF "width" (nV w) ([] : List (Str × V)) = ([("width", nV w)] : List (Str × V)) := rfl
theorem nF_height : putF "height" (nV h) ([("width", nV w)] : List (Str × V)) = ([("width", nV w), ("height", nV h)] : List (Str × V)) := (pf_on (by decide +kernel)).trans (congrArg _ (rfl))
theorem nF_goes_on : putF "goes_on" (nV g) ([("width", nV w), ("height", nV h)] : List (Str × V)) = ([("width", nV w), ("height", nV h), ("goes_on", nV g)] : List (Str × V)) := (pf_on (by decide +kernel)).trans (congrArg _ ((pf_on (by decide +kernel)).trans (congrArg _ (rfl))))
theorem nF_frames : putF "frames" (.ref fa) ([("width", nV w), ("height", nV h), ("goes_on", nV g)] : List (Str × V)) = ([("width", nV w), ("height", nV h), ("goes_on", nV g), ("frames", .ref fa)] : List (Str × V)) := (pf_on (by decide +kernel)).trans (congrArg _ ((pf_on (by decide +kernel)).trans (congrArg _ ((pf_on (by decide +kernel)).trans (congrArg _ (rfl))))))
theorem nF_past : putF "past" (.ref pa) ([("width", nV w), ("height", nV h), ("goes_on", nV g), ("frames", .ref fa)] : List (Str × V)) = ([("width", nV w), ("height", nV h), ("goes_on", nV g), ("frames", .ref fa), ("past", .ref pa)] : List (Str × V)) := (pf_on (by decide +kernel)).trans (congrArg _ ((pf_on (by decide +kernel)).trans (congrArg _ ((pf_on (by decide +kernel)).trans (congrArg _ ((pf_on (by decide +kernel)).trans (congrArg _ (rfl))))))))
end
/-- what the top has written of the class -/
structure Cla (K : PySem.W.Frag) (C : Addr) : Prop where
  cl : Cls K C
  n_width : NoAttr K C "width"
  n_height : NoAttr K C "height"
  n_goes_on : NoAttr K C "goes_on"
  n_frames : NoAttr K C "frames"
  n_past : NoAttr K C "past"
def S2 (S : Addr → Prop) (a pa : Addr) : Addr → Prop := fun b => S b ∨ b = a ∨ b = pa
def OldAt (S : Addr → Prop) (H : Hp) (t : Addr) (f : Ie12.Film) : Prop := ¬ S t ∧ ∃ fa, H t = some (.tup [nV f.w, nV f.h, nV f.loop, .ref fa]) ∧ FrsAt S H fa f.frames
structure FilmIn (C : Addr) (S : Addr → Prop) (H : Hp) (a pa dx fa : Addr) (qs : List (Addr × Ie12.Film)) (st : Ie12.St) : Prop where
  na : ¬ S a
  npa : ¬ S pa
  at_ : H a = some (.ins C dx (fF st.film.w st.film.h st.film.loop fa pa))
  fr : FrsAt (S2 S a pa) H fa st.film.frames
  past : H pa = some (.lst (qs.map rf))
  eq : qs.map (·.2) = st.old.reverse
  old : ∀ q ∈ qs, OldAt (S2 S a pa) H q.1 q.2
def FilmAt (C : Addr) (S : Addr → Prop) (H : Hp) (a pa : Addr) (st : Ie12.St) : Prop := ∃ dx fa qs, FilmIn C S H a pa dx fa qs st
section
variable {C : Addr} {S S' : Addr → Prop} {H H' : Hp} {a pa dx fa : Addr} {qs : List (Addr × Ie12.Film)} {st : Ie12.St}
theorem OldAt.go (g : Goes S S' H H') {t : Addr} {f : Ie12.Film} (h : OldAt S H t f) : OldAt S' H' t f := by
  obtain ⟨h1, fb, h2, h3⟩ := h
  refine ⟨fun s => ?_, fb, g.keep _ _ h2 h1, h3.go g⟩
  rcases g.less t s with z | z
  · exact h1 z
  · rw [z] at h2; cases h2
theorem FilmIn.ne (h : FilmIn C S H a pa dx fa qs st) : a ≠ pa := fun e => by
  have h1 := h.at_
  rw [e, h.past] at h1
  cases h1
theorem FilmIn.go (g : Goes S S' H H') (h : FilmIn C S H a pa dx fa qs st) : FilmIn C S' H' a pa dx fa qs st := by
  have g2 : Goes (S2 S a pa) (S2 S' a pa) H H' := ⟨fun b o hb n => g.keep b o hb fun s => n (.inl s), fun b s => s.elim (fun z => (g.less b z).imp .inl id) fun z => .inl (.inr z)⟩
  refine ⟨fun s => ?_, fun s => ?_, g.keep _ _ h.at_ h.na, h.fr.go g2, g.keep _ _ h.past h.npa, h.eq, fun q hq => (h.old q hq).go g2⟩
  · rcases g.less a s with z | z
    · exact h.na z
    · have := h.at_; rw [z] at this; cases this
  · rcases g.less pa s with z | z
    · exact h.npa z
    · have := h.past; rw [z] at this; cases this
theorem FilmIn.ex (e : Ex H H') (h : FilmIn C S H a pa dx fa qs st) : FilmIn C S H' a pa dx fa qs st := h.go (.ex e)
theorem FilmAt.go (g : Goes S S' H H') (h : FilmAt C S H a pa st) : FilmAt C S' H' a pa st := by
  obtain ⟨dx, fa, qs, h⟩ := h
  exact ⟨dx, fa, qs, h.go g⟩
theorem FilmAt.ex (e : Ex H H') (h : FilmAt C S H a pa st) : FilmAt C S H' a pa st := h.go (.ex e)
/-- all but a and pa is as it was -/
def But (a pa : Addr) (H H' : Hp) : Prop := ∀ b o, H b = some o → b ≠ a → b ≠ pa → H' b = some o
theorem But.none {p : Addr} (x : But a pa H H') (k : Kn S H) (na : ¬ S a) (np : ¬ S pa) (h : H' p = none) : ¬ S p := fun sp => by
  cases q : H p with
  | none => exact k p sp q
  | some o =>
    rw [x p o q (fun z => na (z ▸ sp)) (fun z => np (z ▸ sp))] at h
    cases h
end

section
variable {K : PySem.W.Frag} {σ : L2.St} {H : Hp} {ta te : TE} {v : V} {D : Ends} {tz : TS} {C a dx : Addr} {fs : List (Str × V)} {f : Str}
/-- o.f = e -/
theorem s_fld (hv : Ev te σ H v) (ho : Ev ta σ H (.ref a)) (ha : H a = some (.ins C dx fs)) (c : Cls K C) (n : NoAttr K C f) (hl : fs.length < 1000) (k : ∀ H1, Ex H H1 → D.nx σ (upd H1 a (.ins C dx (putF f v fs)))) : sFld K ta te f D σ H :=
  hv H (Ex.refl H) _ fun H1 e1 => ho H1 e1 _ fun H2 e2 => ⟨a, C, dx, fs, rfl, (e1.trans e2) _ _ ha, c, n, hl, k H2 (e1.trans e2)⟩
theorem q_fld (hv : Ev te σ H v) (ho : Ev ta σ H (.ref a)) (ha : H a = some (.ins C dx fs)) (c : Cls K C) (n : NoAttr K C f) (hl : fs.length < 1000) (k : ∀ H1, Ex H H1 → tz D σ (upd H1 a (.ins C dx (putF f v fs)))) : tSeq (sFld K ta te f) tz D σ H :=
  s_fld (D := { D with nx := tz D }) hv ho ha c n hl k
/-- .. a new list -/
theorem s_fldL {xs : List V} (hv : EvL te σ H xs) (ho : ∀ H1, Ex H H1 → Ev ta σ H1 (.ref a)) (ha : H a = some (.ins C dx fs)) (c : Cls K C) (n : NoAttr K C f) (hl : fs.length < 1000) (k : ∀ p H1, H p = none → Ex H H1 → H1 p = some (.lst xs) → D.nx σ (upd H1 a (.ins C dx (putF f (.ref p) fs)))) : sFld K ta te f D σ H :=
  hv H (Ex.refl H) _ fun p H1 hp e1 h1 => ho H1 e1 H1 (Ex.refl H1) _ fun H2 e2 => ⟨a, C, dx, fs, rfl, (e1.trans e2) _ _ ha, c, n, hl, k p H2 hp (e1.trans e2) (e2 _ _ h1)⟩
theorem q_fldL {xs : List V} (hv : EvL te σ H xs) (ho : ∀ H1, Ex H H1 → Ev ta σ H1 (.ref a)) (ha : H a = some (.ins C dx fs)) (c : Cls K C) (n : NoAttr K C f) (hl : fs.length < 1000) (k : ∀ p H1, H p = none → Ex H H1 → H1 p = some (.lst xs) → tz D σ (upd H1 a (.ins C dx (putF f (.ref p) fs)))) : tSeq (sFld K ta te f) tz D σ H :=
  s_fldL (D := { D with nx := tz D }) hv ho ha c n hl k
end
/-- all but a is as it was -/
def Bt (a : Addr) (H H' : Hp) : Prop := ∀ b o, H b = some o → b ≠ a → H' b = some o
theorem Bt.ex {a : Addr} {H H' : Hp} (e : Ex H H') : Bt a H H' := fun b o h _ => e b o h
theorem Bt.trans {a : Addr} {H H1 H2 : Hp} (x : Bt a H H1) (y : Bt a H1 H2) : Bt a H H2 := fun b o h n => y b o (x b o h n) n
theorem Bt.upd {a : Addr} {H H1 : Hp} {o : HO} (x : Bt a H H1) : Bt a H (upd H1 a o) := fun b u h n => by rw [upd_ne n]; exact x b u h n
theorem Bt.fresh {a p : Addr} {H H1 : Hp} (x : Bt a H H1) (h : H1 p = none) (n : p ≠ a) : H p = none := by
  cases q : H p with
  | none => rfl
  | some o => rw [x p o q n] at h; cases h
/-- a field list that begin meets -/
def FF0 (fs : List (Str × V)) : Prop := fs = [] ∨ ∃ w0 h0 g0 f0 p0, fs = fF w0 h0 g0 f0 p0
theorem begun {fs : List (Str × V)} (h : FF0 fs) (wd ht : Nat) : (∀ fa pa : Addr, putF "past" (.ref pa) (putF "frames" (.ref fa) (putF "goes_on" (nV 0) (putF "height" (nV ht) (putF "width" (nV wd) fs)))) = fF wd ht 0 fa pa) ∧ fs.length < 1000 ∧ (putF "width" (nV wd) fs).length < 1000 ∧
    (putF "height" (nV ht) (putF "width" (nV wd) fs)).length < 1000 ∧ (putF "goes_on" (nV 0) (putF "height" (nV ht) (putF "width" (nV wd) fs))).length < 1000 ∧ ∀ fa, (putF "frames" (.ref fa) (putF "goes_on" (nV 0) (putF "height" (nV ht) (putF "width" (nV wd) fs)))).length < 1000 := by
  rcases h with rfl | ⟨w0, h0, g0, f0, p0, rfl⟩
  · rw [nF_width wd, nF_height wd ht, nF_goes_on wd ht 0]
    refine ⟨fun fa pa => ?_, by decide, by simp, by simp, by simp, fun fa => ?_⟩
    · rw [nF_frames wd ht 0 fa, nF_past]; rfl
    · rw [nF_frames wd ht 0 fa]; simp
  · rw [pF_width, pF_height, pF_goes_on]
    refine ⟨fun fa pa => by rw [pF_frames, pF_past], ?_, ?_, ?_, ?_, fun fa => ?_⟩
    · exact (by decide : 5 < 1000)
    · exact (by decide : 5 < 1000)
    · exact (by decide : 5 < 1000)
    · exact (by decide : 5 < 1000)
    · rw [pF_frames]; exact (by decide : 5 < 1000)

section
variable {P : Program} {w : World} {K : PySem.W.Frag} {mg : Str → Option Value} {base : Heap} {C : Addr}
/-! ### begin -/
def spBegin (C : Addr) : Sp := fun vs H Q _ => ∃ (S : Addr → Prop) (a dx : Addr) (fs : List (Str × V)) (wd ht : Nat), vs = [.ref a, nV wd, nV ht] ∧ Kn S H ∧ ¬ S a ∧ H a = some (.ins C dx fs) ∧ FF0 fs ∧ wd ≤ 6 ∧ ht ≤ 6 ∧
  ∀ H' pa, Bt a H H' → H pa = none → FilmAt C S H' a pa ⟨⟨wd, ht, [⟨Ie12.blank wd ht, 1⟩], 0⟩, []⟩ → Q .non H'
theorem ok_begin {f : Addr} {fd : FuncData} (T : Txt mg) (L : Cla K C) (c_blank_frame : C8.Cal P w K mg base 2 "blank_frame" spBlank []) (me : Meth K C "begin" f) (F : C8.Fun K "begin" "Film.begin" s_begin f fd) (b : Binds K fd ["self", "width", "height"] []) : C8.Met P w K mg base 3 C "begin" (spBegin C) [] := by
  refine C8.met0 L.cl me F b sc_begin (fun vs H Q E h => ?_) (fun cdv A outer s H vs Q E hr h => ?_)
  · obtain ⟨S, a, dx, fs, wd, ht, rfl, _⟩ := h; rfl
  · obtain ⟨S, a, dx, fs, wd, ht, rfl, hk, na, ha, hfs, hw, hh, k⟩ := h
    obtain ⟨hfin, l0, l1, l2, l3, l4⟩ := begun hfs wd ht
    refine ⟨_, (pss_cons (ps_fld (pv 0) (pv 1) rfl)
      (pss_cons (ps_fld (pv 0) (pv 2) rfl)
      (pss_cons (ps_fld (pv 0) (C8.pe_gc rfl T.c_STAYS) rfl)
      (pss_cons (ps_fld (pv 0) (pe_lst (pa_cons (C8.pe_c c_blank_frame hr (by decide) rfl (pa_cons (pv 1) (pa_cons (pv 2) pa_nil))) pa_nil)) rfl)
      (pss_one (ps_fld (pv 0) (pe_lst pa_nil) rfl)))))), ?_⟩
    refine q_fld (v := nV wd) (ev_var rfl) (ev_var rfl) ha L.cl L.n_width l0 fun H1 e1 => ?_
    refine q_fld (v := nV ht) (ev_var rfl) (ev_var rfl) upd_same L.cl L.n_height l1 fun H2 e2 => ?_
    refine q_fld (v := nV 0) ev_c (ev_var rfl) upd_same L.cl L.n_goes_on l2 fun H3 e3 => ?_
    generalize hH4 : upd H3 a (.ins C dx (putF "goes_on" (nV 0) (putF "height" (nV ht) (putF "width" (nV wd) fs)))) = H4
    have ha4 : H4 a = some (.ins C dx (putF "goes_on" (nV 0) (putF "height" (nV ht) (putF "width" (nV wd) fs)))) := by rw [← hH4]; exact upd_same
    have b4 : Bt a H H4 := by
      rw [← hH4]
      have x1 : Bt a H (upd H1 a (.ins C dx (putF "width" (nV wd) fs))) := (Bt.ex e1).upd
      have x2 : Bt a H (upd H2 a (.ins C dx (putF "height" (nV ht) (putF "width" (nV wd) fs)))) := (x1.trans (.ex e2)).upd
      exact (x2.trans (.ex e3)).upd
    have hk4 : Kn (With S a) H4 := fun b sb => by
      rcases sb with sb | sb
      · intro z
        have nb : b ≠ a := fun e => na (e ▸ sb)
        exact hk b sb (b4.fresh z nb)
      · rw [sb, ha4]; exact fun z => by cases z
    -- self.frames = [blank_frame(width, height)]
    refine ⟨_, rfl, _, rfl, With S a, wd, ht, rfl, hk4, hw, hh, fun t H5 nt e5 ft => ?_⟩
    refine ⟨by show 1 ≤ sizeLine; decide, fun fa nfa => ?_⟩
    have e6 : Ex H5 (upd H5 fa (.lst [.ref t])) := Ex.new nfa
    generalize hH6 : upd H5 fa (.lst [.ref t]) = H6 at e6
    have hfa6 : H6 fa = some (.lst [.ref t]) := by rw [← hH6]; exact upd_same
    refine ⟨_, rfl, a, C, dx, _, rfl, e6 _ _ (e5 _ _ ha4), L.cl, L.n_frames, l3, ?_⟩
    refine s_fldL (xs := []) (el_lst ea_nil (by decide)) (fun _ _ => ev_var rfl) upd_same L.cl L.n_past (l4 fa) fun pa H7 npa e7 h7 => ?_
    rw [hfin]
    have npa_a : pa ≠ a := fun e => by rw [e, upd_same] at npa; cases npa
    rw [upd_ne npa_a] at npa
    have g7 : Goes (With S a) (S2 S a pa) H6 (upd H7 a (.ins C dx (fF wd ht 0 fa pa))) := by
      refine ⟨fun b o hb n => ?_, fun b sb => ?_⟩
      · have nb : b ≠ a := fun e => n (.inr e)
        rw [upd_ne nb]
        exact e7 _ _ (by rw [upd_ne nb]; exact hb)
      · rcases sb with sb | sb | sb
        · exact .inl (.inl sb)
        · exact .inl (.inr sb)
        · rw [sb]; exact .inr npa
    have nfaS : ¬ With S a fa := (hk4.ex e5).ne nfa
    have fr6 : FrsAt (With S a) H6 fa [⟨Ie12.blank wd ht, 1⟩] := ⟨[(t, ⟨Ie12.blank wd ht, 1⟩)], rfl, nfaS, hfa6, FrsOf.one (ft.go (.ex e6))⟩
    have b6 : Bt a H H6 := b4.trans (.ex (e5.trans e6))
    have npaH : H pa = none := b6.fresh npa npa_a
    refine k _ pa ?_ npaH ⟨dx, fa, [], na, hk.ne npaH, upd_same, fr6.go g7, ?_, rfl, fun q hq => by cases hq⟩
    · exact fun b o hb n => by
        rw [upd_ne n]
        exact e7 _ _ (by rw [upd_ne n]; exact b6 b o hb n)
    · rw [upd_ne npa_a]; exact h7

/-! ### remember -/
theorem last8 {α : Type} (x : α) (old : List α) : ((old.reverse ++ [x]).drop ((old.reverse ++ [x]).length - 8)) = ((x :: old).take 8).reverse := by
  have e : old.reverse ++ [x] = (x :: old).reverse := (List.reverse_cons).symm
  rw [e, List.length_reverse, List.drop_reverse]
  congr 1
  by_cases h : (x :: old).length ≤ 8
  · rw [List.take_of_length_le h, List.take_of_length_le (by omega)]
  · congr 1; omega
def spRemember (C : Addr) : Sp := fun vs H Q _ => ∃ (S : Addr → Prop) (a pa : Addr) (st : Ie12.St), vs = [.ref a] ∧ Kn S H ∧ FilmAt C S H a pa st ∧ st.old.length ≤ 8 ∧
  ∀ H' pa', But a pa H H' → H pa' = none → FilmAt C S H' a pa' ⟨st.film, (st.film :: st.old).take 8⟩ → Q .non H'
theorem ok_remember {f : Addr} {fd : FuncData} (T : Txt mg) (L : Cla K C) (me : Meth K C "remember" f) (F : C8.Fun K "remember" "Film.remember" s_remember f fd) (b : Binds K fd ["self"] []) : C8.Met P w K mg base 1 C "remember" (spRemember C) [] := by
  refine C8.met0 L.cl me F b sc_remember (fun vs H Q E h => ?_) (fun cdv A outer s H vs Q E hr h => ?_)
  · obtain ⟨S, a, pa, st, rfl, _⟩ := h; rfl
  · obtain ⟨S, a, pa, st, rfl, hk, ⟨dx, fa, qs, fi⟩, ho, k⟩ := h
    have hqs : qs.length = st.old.length := by
      have := congrArg List.length fi.eq
      rw [List.length_map, List.length_reverse] at this
      exact this
    refine ⟨_, (pss_cons (ps_expr (pe_bm PySem.F.plainAttrs_list PySem.F.slot_list_append PySem.F.type_list_append mt_append (pe_fld (pv 0) rfl) (pa_cons (pe_tup (pa_cons (pe_fld (pv 0) rfl) (pa_cons (pe_fld (pv 0) rfl) (pa_cons (pe_fld (pv 0) rfl) (pa_cons (pe_fld (pv 0) rfl) pa_nil))))) pa_nil)))
      (pss_one (ps_fld (pv 0) (pe_slice sl_list (pe_fld (pv 0) rfl) (po_some (pe_un un_neg (C8.pe_gc rfl T.c_MOST_UNDONE))) po_none) rfl))), ?_⟩
    have fld : ∀ {H0 : Hp} {n : Str} {v : V}, H0 a = some (.ins C dx (fF st.film.w st.film.h st.film.loop fa pa)) → NoAttr K C n → (fF st.film.w st.film.h st.film.loop fa pa).lookup n = some v → Ev (tFld K (tVar 0) n) (start ["self"] [V.ref a]) H0 v := fun h n l => ev_fld (ev_var rfl) h L.cl n l
    refine q_appU fi.past (fld fi.at_ L.n_past (fF_past ..)) (eu_tup (ea_cons (fld fi.at_ L.n_width (fF_width ..)) (ea_cons (fld fi.at_ L.n_height (fF_height ..)) (ea_cons (fld fi.at_ L.n_goes_on (fF_goes_on ..)) (ea_cons (fld fi.at_ L.n_frames (fF_frames ..)) ea_nil)))) (by simp)) (by rw [List.length_map]; omega) fun t H1 nt e1 h1 => ?_
    have nta : t ≠ pa := fun z => by rw [z, fi.past] at nt; cases nt
    have ea : (upd H1 pa (.lst (qs.map rf ++ [.ref t]))) a = some (.ins C dx (fF st.film.w st.film.h st.film.loop fa pa)) := by
      rw [upd_ne fi.ne]; exact e1 _ _ fi.at_
    refine s_fldL (el_is (ys := ((qs ++ [(t, st.film)]).drop ((qs ++ [(t, st.film)]).length - 8)).map rf) (el_sl (fld ea L.n_past (fF_past ..)) (eo_some (i := -8) (ev_un ev_c ru_neg)) eo_none (sq_of upd_same)) ?_) (fun _ _ => ev_var rfl) ea L.cl L.n_past (by exact (by decide : 5 < 1000)) fun p H2 np e2 h2 => ?_
    · rw [show (-8 : Int) = -((8 : Nat) : Int) from rfl, cut_last, if_neg (by decide), List.map_drop, List.map_append]
      congr 1
      simp
    · rw [pF_past]
      have npa : p ≠ pa := fun z => by rw [z, upd_same] at np; cases np
      have npa2 : p ≠ a := fun z => by rw [z, ea] at np; cases np
      rw [upd_ne npa] at np
      have npH : H p = none := fresh_back e1 np
      -- what neither a nor pa is stays
      have hB : But a pa H (upd H2 a (.ins C dx (fF st.film.w st.film.h st.film.loop fa p))) := fun b o hb n1 n2 => by
        rw [upd_ne n1]
        exact e2 _ _ (by rw [upd_ne n2]; exact e1 _ _ hb)
      have g : Goes (S2 S a pa) (S2 S a p) H (upd H2 a (.ins C dx (fF st.film.w st.film.h st.film.loop fa p))) := by
        refine ⟨fun b o hb n => hB b o hb (fun z => n (.inr (.inl z))) fun z => n (.inr (.inr z)), fun b sb => ?_⟩
        rcases sb with sb | sb | sb
        · exact .inl (.inl sb)
        · exact .inl (.inr (.inl sb))
        · rw [sb]; exact .inr npH
      have ht2 : (upd H2 a (.ins C dx (fF st.film.w st.film.h st.film.loop fa p))) t = some (.tup [nV st.film.w, nV st.film.h, nV st.film.loop, .ref fa]) := by
        have n1 : t ≠ a := fun z => by rw [z, fi.at_] at nt; cases nt
        rw [upd_ne n1]
        exact e2 _ _ (by rw [upd_ne nta]; exact h1)
      refine k _ p hB npH ⟨dx, fa, (qs ++ [(t, st.film)]).drop ((qs ++ [(t, st.film)]).length - 8), fi.na, hk.ne npH, upd_same, fi.fr.go g, ?_, ?_, fun q hq => ?_⟩
      · rw [upd_ne npa2]; exact h2
      · rw [List.map_drop, List.map_append, fi.eq]
        have := last8 st.film st.old
        rw [show (qs ++ [(t, st.film)]).length = (st.old.reverse ++ [st.film]).length by simp [hqs]]
        exact this
      · rcases List.mem_append.mp (List.mem_of_mem_drop hq) with m | m
        · exact (fi.old q m).go g
        · have e : q = (t, st.film) := by simpa using m
          subst e
          refine ⟨fun z => ?_, fa, ht2, fi.fr.go g⟩
          rcases z with z | z | z
          · exact hk _ z nt
          · have z : t = a := z
            rw [z, fi.at_] at nt; cases nt
          · have z : t = p := z
            rw [← z, h1] at np; cases np

/-! ### extent, has_frame -/
/-- a call of a method that changes nothing -/
theorem ev_meth {σ : L2.St} {H : Hp} {ta : TE} {t : TA} {sp : Sp} {a dx : Addr} {fs : List (Str × V)} {m : Str} {vs : List V} {z : V} {E : XK} (ha : Ev ta σ H (.ref a)) (h : H a = some (.ins C dx fs)) (hm : fs.lookup m = none) (ht : EvA t σ H vs) (hs : SpV sp (.ref a :: vs) H z) : Ev (tMeth C m sp [] E ta t) σ H z := fun H1 e Q q =>
  ha H1 e _ fun H2 e2 => ⟨a, dx, fs, rfl, (e.trans e2) _ _ h, hm, ht H2 (e.trans e2) _ fun H3 e3 => by
    rw [List.append_nil]
    exact hs H3 ((e.trans e2).trans e3) Q (fun H4 e4 => q H4 ((e2.trans e3).trans e4)) E⟩
def spExtent (C : Addr) : Sp := fun vs H Q _ => ∃ (S : Addr → Prop) (a pa : Addr) (st : Ie12.St), vs = [.ref a] ∧ FilmAt C S H a pa st ∧ st.film.frames.length ≤ 1000 ∧ RetL [nV st.film.frames.length, nV (tks st.film.frames)] H Q
theorem ok_extent {f : Addr} {fd : FuncData} (T : Txt mg) (L : Cla K C) (c_all_ticks : C8.Cal P w K mg base 1 "all_ticks" spAll []) (me : Meth K C "extent" f) (F : C8.Fun K "extent" "Film.extent" s_extent f fd) (b : Binds K fd ["self"] []) : C8.Met P w K mg base 2 C "extent" (spExtent C) [] := by
  refine C8.met0 L.cl me F b sc_extent (fun vs H Q E h => ?_) (fun cdv A outer s H vs Q E hr h => ?_)
  · obtain ⟨S, a, pa, st, rfl, _⟩ := h; rfl
  · obtain ⟨S, a, pa, st, rfl, ⟨dx, fa, qs, fi⟩, hz, k⟩ := h
    refine ⟨_, (pss_one (ps_ret (pe_lst (pa_cons (pe_callB call_len_seq (by rfl) T.b_len PySem.boot_len (pa_cons (pe_fld (pv 0) rfl) pa_nil)) (pa_cons (C8.pe_c c_all_ticks hr (by decide) rfl (pa_cons (pe_fld (pv 0) rfl) pa_nil)) pa_nil))))), ?_⟩
    obtain ⟨ps, e, _, hl, _⟩ := id fi.fr
    have hlen : (ps.map rf).length = st.film.frames.length := by rw [← e, List.length_map, List.length_map]
    have hfr : Ev (tFld K (tVar 0) "frames") (start ["self"] [V.ref a]) H (.ref fa) := ev_fld (ev_var rfl) fi.at_ L.cl L.n_frames (fF_frames ..)
    refine s_retL (el_lst (ea_cons (ev_is (ev_lenL hfr (sq_of hl)) (by rw [hlen])) (ea_cons (ev_call (ea_cons hfr ea_nil) fun H1 e1 Q q _ => ⟨_, fa, _, rfl, fi.fr.ex e1, hz, q⟩) ea_nil)) (by simp)) k
def spHas (C : Addr) : Sp := fun vs H Q _ => ∃ (S : Addr → Prop) (a pa : Addr) (st : Ie12.St) (i : Nat), vs = [.ref a, nV i] ∧ FilmAt C S H a pa st ∧ RetV (.bl (decide (i < st.film.frames.length))) H Q
theorem ok_has_frame {f : Addr} {fd : FuncData} (T : Txt mg) (L : Cla K C) (me : Meth K C "has_frame" f) (F : C8.Fun K "has_frame" "Film.has_frame" s_has_frame f fd) (b : Binds K fd ["self", "i"] []) : C8.Met P w K mg base 1 C "has_frame" (spHas C) [] := by
  refine C8.met0 L.cl me F b sc_has_frame (fun vs H Q E h => ?_) (fun cdv A outer s H vs Q E hr h => ?_)
  · obtain ⟨S, a, pa, st, i, rfl, _⟩ := h; rfl
  · obtain ⟨S, a, pa, st, i, rfl, ⟨dx, fa, qs, fi⟩, k⟩ := h
    refine ⟨_, (pss_one (ps_ret (pe_cmpR op_lt (pv 1) (pe_callB call_len_seq (by rfl) T.b_len PySem.boot_len (pa_cons (pe_fld (pv 0) rfl) pa_nil)) (nomark _)))), ?_⟩
    obtain ⟨ps, e, _, hl, _⟩ := id fi.fr
    have hlen : (ps.map rf).length = st.film.frames.length := by rw [← e, List.length_map, List.length_map]
    exact s_ret (ev_op (ev_var (v := nV i) rfl) (ev_is (ev_lenL (ev_fld (ev_var rfl) fi.at_ L.cl L.n_frames (fF_frames ..)) (sq_of hl)) (by rw [hlen])) rv_ltN) k

/-! ### change_frames, change_goes_on -/
/-- a changed film: what a call of these leaves -/
def RetB (C : Addr) (S : Addr → Prop) (a pa : Addr) (st : Ie12.St) (f : Ie12.Film) (H : Hp) (Q : VK) : Prop := ∀ p pa' H', ¬ S p → But a pa H H' → FilmAt C S H' a pa' (Ie12.become st f).1 → H' p = some (.lst [nV f.frames.length, nV (tks f.frames)]) → Q (.ref p) H'
def spChange (C : Addr) : Sp := fun vs H Q _ => ∃ (S : Addr → Prop) (a pa fb : Addr) (st : Ie12.St) (fs : List Ie12.Frame), vs = [.ref a, .ref fb] ∧ Kn S H ∧ FilmAt C S H a pa st ∧ st.old.length ≤ 8 ∧ FrsAt (S2 S a pa) H fb fs ∧ fs.length ≤ 1000 ∧ RetB C S a pa st { st.film with frames := fs } H Q
theorem ok_change_frames {f : Addr} {fd : FuncData} (T : Txt mg) (L : Cla K C) (m_remember : C8.Met P w K mg base 1 C "remember" (spRemember C) []) (m_extent : C8.Met P w K mg base 2 C "extent" (spExtent C) []) (me : Meth K C "change_frames" f) (F : C8.Fun K "change_frames" "Film.change_frames" s_change_frames f fd) (b : Binds K fd ["self", "frames"] []) : C8.Met P w K mg base 3 C "change_frames" (spChange C) [] := by
  refine C8.met0 L.cl me F b sc_change_frames (fun vs H Q E h => ?_) (fun cdv A outer s H vs Q E hr h => ?_)
  · obtain ⟨S, a, pa, fb, st, fs, rfl, _⟩ := h; rfl
  · obtain ⟨S, a, pa, fb, st, fs, rfl, hk, ⟨dx, fa, qs, fi⟩, ho, hfs, hz, k⟩ := h
    refine ⟨_, (pss_cons (ps_expr (C8.pe_mt0 m_remember hr (by decide) (pv 0)))
      (pss_cons (ps_fld (pv 0) (pv 1) rfl)
      (pss_one (ps_ret (C8.pe_mt0 m_extent hr (by decide) (pv 0)))))), ?_⟩
    refine ⟨_, rfl, a, dx, _, rfl, fi.at_, fF_no_remember .., S, a, pa, st, rfl, hk, ⟨dx, fa, qs, fi⟩, ho, fun H1 p1 hB np1 ⟨dx1, fa1, qs1, fi1⟩ => ?_⟩
    have g1 : Goes (S2 S a pa) (S2 S a p1) H H1 := by
      refine ⟨fun b o hb n => hB b o hb (fun z => n (.inr (.inl z))) fun z => n (.inr (.inr z)), fun b sb => ?_⟩
      rcases sb with sb | sb | sb
      · exact .inl (.inl sb)
      · exact .inl (.inr (.inl sb))
      · rw [sb]; exact .inr np1
    have hfs1 := hfs.go g1
    refine q_fld (v := .ref fb) (ev_var rfl) (ev_var rfl) fi1.at_ L.cl L.n_frames (by exact (by decide : 5 < 1000)) fun H2 e2 => ?_
    rw [pF_frames]
    have g2 : Goes (S2 S a p1) (S2 S a p1) H1 (upd H2 a (.ins C dx1 (fF st.film.w st.film.h st.film.loop fb p1))) :=
      ⟨fun b o hb n => by rw [upd_ne (fun z => n (.inr (.inl z)))]; exact e2 _ _ hb, fun b sb => .inl sb⟩
    have fi2 : FilmIn C S (upd H2 a (.ins C dx1 (fF st.film.w st.film.h st.film.loop fb p1))) a p1 dx1 fb qs1 (Ie12.become st { st.film with frames := fs }).1 :=
      ⟨fi1.na, fi1.npa, upd_same, hfs1.go g2, by rw [upd_ne fi1.ne.symm]; exact e2 _ _ fi1.past, fi1.eq, fun q hq => (fi1.old q hq).go g2⟩
    refine ⟨_, rfl, a, dx1, _, rfl, upd_same, fF_no_extent .., S, a, p1, _, rfl, ⟨dx1, fb, qs1, fi2⟩, hz, fun p H3 np e3 h3 => ?_⟩
    have npa : p ≠ a := fun z => by rw [z, upd_same] at np; cases np
    rw [upd_ne npa] at np
    have np1' : H1 p = none := fresh_back e2 np
    have nSp : ¬ S p := hB.none hk fi.na fi.npa np1'
    refine k p p1 H3 nSp (fun b o hb n1 n2 => e3 _ _ (by rw [upd_ne n1]; exact e2 _ _ (hB b o hb n1 n2))) ⟨dx1, fb, qs1, fi2.ex e3⟩ h3

def spGoesOn (C : Addr) : Sp := fun vs H Q _ => ∃ (S : Addr → Prop) (a pa : Addr) (st : Ie12.St) (n : Nat), vs = [.ref a, nV n] ∧ Kn S H ∧ FilmAt C S H a pa st ∧ st.old.length ≤ 8 ∧ st.film.frames.length ≤ 1000 ∧ RetB C S a pa st { st.film with loop := n } H Q
theorem ok_change_goes_on {f : Addr} {fd : FuncData} (T : Txt mg) (L : Cla K C) (m_remember : C8.Met P w K mg base 1 C "remember" (spRemember C) []) (m_extent : C8.Met P w K mg base 2 C "extent" (spExtent C) []) (me : Meth K C "change_goes_on" f) (F : C8.Fun K "change_goes_on" "Film.change_goes_on" s_change_goes_on f fd) (b : Binds K fd ["self", "goes_on"] []) : C8.Met P w K mg base 3 C "change_goes_on" (spGoesOn C) [] := by
  refine C8.met0 L.cl me F b sc_change_goes_on (fun vs H Q E h => ?_) (fun cdv A outer s H vs Q E hr h => ?_)
  · obtain ⟨S, a, pa, st, n, rfl, _⟩ := h; rfl
  · obtain ⟨S, a, pa, st, n, rfl, hk, ⟨dx, fa, qs, fi⟩, ho, hz, k⟩ := h
    refine ⟨_, (pss_cons (ps_expr (C8.pe_mt0 m_remember hr (by decide) (pv 0)))
      (pss_cons (ps_fld (pv 0) (pv 1) rfl)
      (pss_one (ps_ret (C8.pe_mt0 m_extent hr (by decide) (pv 0)))))), ?_⟩
    refine ⟨_, rfl, a, dx, _, rfl, fi.at_, fF_no_remember .., S, a, pa, st, rfl, hk, ⟨dx, fa, qs, fi⟩, ho, fun H1 p1 hB np1 ⟨dx1, fa1, qs1, fi1⟩ => ?_⟩
    refine q_fld (v := nV n) (ev_var rfl) (ev_var rfl) fi1.at_ L.cl L.n_goes_on (by exact (by decide : 5 < 1000)) fun H2 e2 => ?_
    rw [pF_goes_on]
    have g2 : Goes (S2 S a p1) (S2 S a p1) H1 (upd H2 a (.ins C dx1 (fF st.film.w st.film.h n fa1 p1))) :=
      ⟨fun b o hb m => by rw [upd_ne (fun z => m (.inr (.inl z)))]; exact e2 _ _ hb, fun b sb => .inl sb⟩
    have fi2 : FilmIn C S (upd H2 a (.ins C dx1 (fF st.film.w st.film.h n fa1 p1))) a p1 dx1 fa1 qs1 (Ie12.become st { st.film with loop := n }).1 :=
      ⟨fi1.na, fi1.npa, upd_same, fi1.fr.go g2, by rw [upd_ne fi1.ne.symm]; exact e2 _ _ fi1.past, fi1.eq, fun q hq => (fi1.old q hq).go g2⟩
    refine ⟨_, rfl, a, dx1, _, rfl, upd_same, fF_no_extent .., S, a, p1, _, rfl, ⟨dx1, fa1, qs1, fi2⟩, hz, fun p H3 np e3 h3 => ?_⟩
    have npa : p ≠ a := fun z => by rw [z, upd_same] at np; cases np
    rw [upd_ne npa] at np
    exact k p p1 H3 (hB.none hk fi.na fi.npa (fresh_back e2 np)) (fun b o hb n1 n2 => e3 _ _ (by rw [upd_ne n1]; exact e2 _ _ (hB b o hb n1 n2))) ⟨dx1, fa1, qs1, fi2.ex e3⟩ h3

/-! ### __init__ -/
def spInit (C : Addr) : Sp := fun vs H Q _ => ∃ (S : Addr → Prop) (a dx : Addr), vs = [.ref a] ∧ Kn S H ∧ ¬ S a ∧ H a = some (.ins C dx []) ∧ ∀ H' pa, Bt a H H' → FilmAt C S H' a pa Ie12.init → Q .non H'
theorem ok_init {f : Addr} {fd : FuncData} (T : Txt mg) (L : Cla K C) (m_begin : C8.Met P w K mg base 3 C "begin" (spBegin C) []) (M : Mk K C f) (hm : mg "Film" = some (.ref C)) (F : C8.Fun K "__init__" "Film.__init__" s_init f fd) (b : Binds K fd ["self"] []) : C8.Mak P w K mg base 4 "Film" C (spInit C) [] := by
  refine C8.mak0 M hm F b .nil sc_init (fun vs H Q E h => ?_) (fun cdv A outer s H vs Q E hr h => ?_)
  · obtain ⟨S, a, dx, rfl, _⟩ := h; rfl
  · obtain ⟨S, a, dx, rfl, hk, na, ha, k⟩ := h
    refine ⟨_, (pss_one (ps_expr (C8.pe_mt m_begin hr (by decide) (pv 0) (pa_cons pe_int (pa_cons pe_int pa_nil))))), ?_⟩
    exact ⟨_, rfl, a, dx, [], rfl, ha, rfl, S, a, dx, [], 1, 1, rfl, hk, na, ha, .inl rfl, by decide, by decide, fun H' pa hB _ hf => k H' pa hB hf⟩
end
end FF

set_option Elab.async false
set_option linter.all false
set_option maxRecDepth 100000
set_option maxHeartbeats 2000000
namespace FF
open PySem PySem.Spec PyProof.Rows L2 Evl
section
variable {σ : L2.St} {H : Hp} {C : Addr}
theorem eu_call {sp : Sp} {dvs vs xs : List V} {E : XK} {ta : TA} (h : EvA ta σ H vs) (hs : ∀ H1, Ex H H1 → ∀ Q : VK, RetU xs H1 Q → ∀ E : XK, sp (vs ++ dvs) H1 Q E) : EvU (tCall sp dvs E ta) σ H xs := fun H1 e Q q =>
  h H1 e _ fun H2 e2 => hs H2 (e.trans e2) Q (fun p H3 hp e3 h3 => q p H3 (fresh_back e2 hp) (e2.trans e3) h3) E
/-- x = xs.pop() -/
theorem q_pop {K : PySem.W.Frag} {te : TE} {i : Nat} {D : Ends} {tz : TS} {l : Addr} {xs : List V} {y : V} (ha : Ev te σ H (.ref l)) (hl : H l = some (.lst (xs ++ [y]))) (k : ∀ H1, Ex H H1 → tz D (σ.set i (some y)) (upd H1 l (.lst xs))) : tSeq (tAsg (tBM0 K "list" rPop te) (gName i)) tz D σ H :=
  ha H (Ex.refl H) _ fun H1 e1 => ⟨.inl ⟨rfl, _, sq_of (e1 _ _ hl)⟩, l, _, y, rfl, rfl, e1 _ _ hl, by rw [List.length_append, List.getElem?_append_right (by simp)]; simp, by rw [List.dropLast_concat]; exact k H1 e1⟩
/-- a call of a method that changes nothing and gives a new tuple -/
theorem eu_meth {ta : TE} {t : TA} {sp : Sp} {a dx : Addr} {fs : List (Str × V)} {m : Str} {vs xs : List V} {E : XK} (ha : Ev ta σ H (.ref a)) (h : H a = some (.ins C dx fs)) (hm : fs.lookup m = none) (ht : EvA t σ H vs) (hs : ∀ H1, Ex H H1 → ∀ Q : VK, RetU xs H1 Q → ∀ E : XK, sp (.ref a :: vs) H1 Q E) : EvU (tMeth C m sp [] E ta t) σ H xs := fun H1 e Q q =>
  ha H1 e _ fun H2 e2 => ⟨a, dx, fs, rfl, (e.trans e2) _ _ h, hm, ht H2 (e.trans e2) _ fun H3 e3 => by
    rw [List.append_nil]
    exact hs H3 ((e.trans e2).trans e3) Q (fun p H4 hp e4 h4 => q p H4 (fresh_back (e2.trans e3) hp) ((e2.trans e3).trans e4) h4) E⟩
end
section
variable {P : Program} {w : World} {K : PySem.W.Frag} {mg : Str → Option Value} {base : Heap} {C : Addr}
/-! ### change_size -/
def spSize (C : Addr) : Sp := fun vs H Q _ => ∃ (S : Addr → Prop) (a pa fb : Addr) (st : Ie12.St) (wd ht : Nat) (fs : List Ie12.Frame), vs = [.ref a, nV wd, nV ht, .ref fb] ∧ Kn S H ∧ FilmAt C S H a pa st ∧ st.old.length ≤ 8 ∧ FrsAt (S2 S a pa) H fb fs ∧ fs.length ≤ 1000 ∧ RetB C S a pa st ⟨wd, ht, fs, st.film.loop⟩ H Q
theorem ok_change_size {f : Addr} {fd : FuncData} (T : Txt mg) (L : Cla K C) (m_remember : C8.Met P w K mg base 1 C "remember" (spRemember C) []) (m_extent : C8.Met P w K mg base 2 C "extent" (spExtent C) []) (me : Meth K C "change_size" f) (F : C8.Fun K "change_size" "Film.change_size" s_change_size f fd) (b : Binds K fd ["self", "width", "height", "frames"] []) : C8.Met P w K mg base 3 C "change_size" (spSize C) [] := by
  refine C8.met0 L.cl me F b sc_change_size (fun vs H Q E h => ?_) (fun cdv A outer s H vs Q E hr h => ?_)
  · obtain ⟨S, a, pa, fb, st, wd, ht, fs, rfl, _⟩ := h; rfl
  · obtain ⟨S, a, pa, fb, st, wd, ht, fs, rfl, hk, ⟨dx, fa, qs, fi⟩, ho, hfs, hz, k⟩ := h
    refine ⟨_, (pss_cons (ps_expr (C8.pe_mt0 m_remember hr (by decide) (pv 0)))
      (pss_cons (ps_fld (pv 0) (pv 1) rfl)
      (pss_cons (ps_fld (pv 0) (pv 2) rfl)
      (pss_cons (ps_fld (pv 0) (pv 3) rfl)
      (pss_one (ps_ret (C8.pe_mt0 m_extent hr (by decide) (pv 0)))))))), ?_⟩
    refine ⟨_, rfl, a, dx, _, rfl, fi.at_, fF_no_remember .., S, a, pa, st, rfl, hk, ⟨dx, fa, qs, fi⟩, ho, fun H1 p1 hB np1 ⟨dx1, fa1, qs1, fi1⟩ => ?_⟩
    have g1 : Goes (S2 S a pa) (S2 S a p1) H H1 := by
      refine ⟨fun b o hb n => hB b o hb (fun z => n (.inr (.inl z))) fun z => n (.inr (.inr z)), fun b sb => ?_⟩
      rcases sb with sb | sb | sb
      · exact .inl (.inl sb)
      · exact .inl (.inr (.inl sb))
      · rw [sb]; exact .inr np1
    have hfs1 := hfs.go g1
    refine q_fld (v := nV wd) (ev_var rfl) (ev_var rfl) fi1.at_ L.cl L.n_width (by exact (by decide : 5 < 1000)) fun H2 e2 => ?_
    rw [pF_width]
    refine q_fld (v := nV ht) (ev_var rfl) (ev_var rfl) upd_same L.cl L.n_height (by exact (by decide : 5 < 1000)) fun H3 e3 => ?_
    rw [pF_height]
    refine q_fld (v := .ref fb) (ev_var rfl) (ev_var rfl) upd_same L.cl L.n_frames (by exact (by decide : 5 < 1000)) fun H4 e4 => ?_
    rw [pF_frames]
    have kp : ∀ b o, b ≠ a → H1 b = some o → H4 b = some o := fun b o nb hb => e4 _ _ (by
      rw [upd_ne nb]
      exact e3 _ _ (by rw [upd_ne nb]; exact e2 _ _ hb))
    have g2 : Goes (S2 S a p1) (S2 S a p1) H1 (upd H4 a (.ins C dx1 (fF wd ht st.film.loop fb p1))) :=
      ⟨fun b o hb n => by rw [upd_ne (fun z => n (.inr (.inl z)))]; exact kp _ _ (fun z => n (.inr (.inl z))) hb, fun b sb => .inl sb⟩
    have fi2 : FilmIn C S (upd H4 a (.ins C dx1 (fF wd ht st.film.loop fb p1))) a p1 dx1 fb qs1 (Ie12.become st ⟨wd, ht, fs, st.film.loop⟩).1 :=
      ⟨fi1.na, fi1.npa, upd_same, hfs1.go g2, by rw [upd_ne fi1.ne.symm]; exact kp _ _ fi1.ne.symm fi1.past, fi1.eq, fun q hq => (fi1.old q hq).go g2⟩
    refine ⟨_, rfl, a, dx1, _, rfl, upd_same, fF_no_extent .., S, a, p1, _, rfl, ⟨dx1, fb, qs1, fi2⟩, hz, fun p H5 np e5 h5 => ?_⟩
    have npa : p ≠ a := fun z => by rw [z, upd_same] at np; cases np
    rw [upd_ne npa] at np
    have np1' : H1 p = none := by
      cases q : H1 p with
      | none => rfl
      | some o => rw [kp p o npa q] at np; cases np
    refine k p p1 H5 (hB.none hk fi.na fi.npa np1') (fun b o hb n1 n2 => e5 _ _ (by rw [upd_ne n1]; exact kp _ _ n1 (hB b o hb n1 n2))) ⟨dx1, fb, qs1, fi2.ex e5⟩ h5

/-! ### go_back -/
def spBack (C : Addr) : Sp := fun vs H Q _ => ∃ (S : Addr → Prop) (a pa : Addr) (st : Ie12.St) (f : Ie12.Film) (old : List Ie12.Film), vs = [.ref a] ∧ Kn S H ∧ FilmAt C S H a pa st ∧ st.old = f :: old ∧ f.frames.length ≤ 1000 ∧
  ∀ p H', ¬ S p → But a pa H H' → FilmAt C S H' a pa ⟨f, old⟩ → H' p = some (.lst [nV f.frames.length, nV (tks f.frames)]) → Q (.ref p) H'
theorem ok_go_back {f : Addr} {fd : FuncData} (T : Txt mg) (L : Cla K C) (m_extent : C8.Met P w K mg base 2 C "extent" (spExtent C) []) (me : Meth K C "go_back" f) (F : C8.Fun K "go_back" "Film.go_back" s_go_back f fd) (b : Binds K fd ["self"] []) : C8.Met P w K mg base 3 C "go_back" (spBack C) [] := by
  refine C8.met0 L.cl me F b sc_go_back (fun vs H Q E h => ?_) (fun cdv A outer s H vs Q E hr h => ?_)
  · obtain ⟨S, a, pa, st, fm, old, rfl, _⟩ := h; rfl
  · obtain ⟨S, a, pa, st, fm, old, rfl, hk, ⟨dx, fa, qs, fi⟩, ho, hz, k⟩ := h
    refine ⟨_, (pss_cons (ps_set (i := 1) sc_go_back.nd rfl (.inl rfl) (pe_bm0 PySem.F.plainAttrs_list PySem.F.slot_list_pop PySem.F.type_list_pop mt_pop (pe_fld (pv 0) rfl)))
      (pss_cons (ps_fld (pv 0) (pe_ix ix_tup (pv 1) pe_int (fun _ _ => rfl)) rfl)
      (pss_cons (ps_fld (pv 0) (pe_ix ix_tup (pv 1) pe_int (fun _ _ => rfl)) rfl)
      (pss_cons (ps_fld (pv 0) (pe_ix ix_tup (pv 1) pe_int (fun _ _ => rfl)) rfl)
      (pss_cons (ps_fld (pv 0) (pe_ix ix_tup (pv 1) pe_int (fun _ _ => rfl)) rfl)
      (pss_one (ps_ret (C8.pe_mt0 m_extent hr (by decide) (pv 0))))))))), ?_⟩
    obtain ⟨qr, q, rfl, hqr, hq⟩ : ∃ qr q, qs = qr ++ [q] ∧ qr.map (·.2) = old.reverse ∧ q.2 = fm := by
      have h := fi.eq
      rw [ho, List.reverse_cons] at h
      rcases snoc_or qs with rfl | ⟨qr, q, rfl⟩
      · simp at h
      · rw [List.map_append] at h
        obtain ⟨h1, h2⟩ := List.append_inj' h (by simp)
        exact ⟨qr, q, rfl, h1, by simpa using h2⟩
    have hpast := fi.past
    rw [List.map_append] at hpast
    obtain ⟨nq, fb, hqt, hfb⟩ := fi.old q (by simp)
    rw [hq] at hqt hfb
    have nqa : q.1 ≠ a := fun z => nq (.inr (.inl z))
    have nqp : q.1 ≠ pa := fun z => nq (.inr (.inr z))
    refine q_pop (xs := qr.map rf) (y := .ref q.1) (ev_fld (ev_var rfl) fi.at_ L.cl L.n_past (fF_past ..)) hpast fun H1 e1 => ?_
    · have at1 : (upd H1 pa (.lst (qr.map rf))) a = some (.ins C dx (fF st.film.w st.film.h st.film.loop fa pa)) := by rw [upd_ne fi.ne]; exact e1 _ _ fi.at_
      have qt1 : (upd H1 pa (.lst (qr.map rf))) q.1 = some (.tup [nV fm.w, nV fm.h, nV fm.loop, .ref fb]) := by rw [upd_ne nqp]; exact e1 _ _ hqt
      have B1 : But a pa H (upd H1 pa (.lst (qr.map rf))) := fun b o hb n1 n2 => by rw [upd_ne n2]; exact e1 _ _ hb
      have pa1 : (upd H1 pa (.lst (qr.map rf))) pa = some (.lst (qr.map rf)) := upd_same
      generalize upd H1 pa (.lst (qr.map rf)) = H2 at at1 qt1 B1 pa1 ⊢
      have ix : ∀ {H0 : Hp} (j : Nat) (v : V), H0 q.1 = some (.tup [nV fm.w, nV fm.h, nV fm.loop, .ref fb]) → [nV fm.w, nV fm.h, nV fm.loop, V.ref fb][j]? = some v → Ev (tOp (rIxT K) (tVar 1) (tC (nV j))) [some (V.ref a), some (V.ref q.1)] H0 v := fun j v h0 h => ev_op (ev_var rfl) ev_c (rv_ixTN (st_of h0) h)
      refine q_fld (v := nV fm.w) (ix 0 _ qt1 rfl) (ev_var rfl) at1 L.cl L.n_width (by exact (by decide : 5 < 1000)) fun H3 e3 => ?_
      rw [pF_width]
      have qt3 : (upd H3 a (.ins C dx (fF fm.w st.film.h st.film.loop fa pa))) q.1 = some (.tup [nV fm.w, nV fm.h, nV fm.loop, .ref fb]) := by rw [upd_ne nqa]; exact e3 _ _ qt1
      refine q_fld (v := nV fm.h) (ix 1 _ qt3 rfl) (ev_var rfl) upd_same L.cl L.n_height (by exact (by decide : 5 < 1000)) fun H4 e4 => ?_
      rw [pF_height]
      have qt4 : (upd H4 a (.ins C dx (fF fm.w fm.h st.film.loop fa pa))) q.1 = some (.tup [nV fm.w, nV fm.h, nV fm.loop, .ref fb]) := by rw [upd_ne nqa]; exact e4 _ _ qt3
      refine q_fld (v := nV fm.loop) (ix 2 _ qt4 rfl) (ev_var rfl) upd_same L.cl L.n_goes_on (by exact (by decide : 5 < 1000)) fun H5 e5 => ?_
      rw [pF_goes_on]
      have qt5 : (upd H5 a (.ins C dx (fF fm.w fm.h fm.loop fa pa))) q.1 = some (.tup [nV fm.w, nV fm.h, nV fm.loop, .ref fb]) := by rw [upd_ne nqa]; exact e5 _ _ qt4
      refine q_fld (v := .ref fb) (ix 3 _ qt5 rfl) (ev_var rfl) upd_same L.cl L.n_frames (by exact (by decide : 5 < 1000)) fun H6 e6 => ?_
      rw [pF_frames]
      have kp : ∀ b o, b ≠ a → H2 b = some o → (upd H6 a (.ins C dx (fF fm.w fm.h fm.loop fb pa))) b = some o := fun b o nb hb => by
        rw [upd_ne nb]
        refine e6 _ _ ?_
        rw [upd_ne nb]
        refine e5 _ _ ?_
        rw [upd_ne nb]
        refine e4 _ _ ?_
        rw [upd_ne nb]
        exact e3 _ _ hb
      have hB : But a pa H (upd H6 a (.ins C dx (fF fm.w fm.h fm.loop fb pa))) := fun b o hb n1 n2 => kp b o n1 (B1 b o hb n1 n2)
      have g2 : Goes (S2 S a pa) (S2 S a pa) H (upd H6 a (.ins C dx (fF fm.w fm.h fm.loop fb pa))) := ⟨fun b o hb n => hB b o hb (fun z => n (.inr (.inl z))) fun z => n (.inr (.inr z)), fun b sb => .inl sb⟩
      have fi2 : FilmIn C S (upd H6 a (.ins C dx (fF fm.w fm.h fm.loop fb pa))) a pa dx fb qr ⟨fm, old⟩ :=
        ⟨fi.na, fi.npa, upd_same, hfb.go g2, kp _ _ fi.ne.symm pa1, hqr, fun z hz => (fi.old z (List.mem_append_left _ hz)).go g2⟩
      refine ⟨_, rfl, a, dx, _, rfl, upd_same, fF_no_extent .., S, a, pa, _, rfl, ⟨dx, fb, qr, fi2⟩, hz, fun p H7 np e7 h7 => ?_⟩
      exact k p H7 (hB.none hk fi.na fi.npa np) (fun b o hb n1 n2 => e7 _ _ (hB b o hb n1 n2)) ⟨dx, fb, qr, fi2.ex e7⟩ h7

/-! ### place_at -/
def spAt (C : Addr) : Sp := fun vs H Q _ => ∃ (S : Addr → Prop) (a pa : Addr) (st : Ie12.St) (t : Nat), vs = [.ref a, nV t] ∧ FilmAt C S H a pa st ∧ GoodF st.film ∧ RetU [nV (st.film.place t).1, nV (st.film.place t).2] H Q
theorem ok_place_at {f : Addr} {fd : FuncData} (T : Txt mg) (L : Cla K C) (c_all_ticks : C8.Cal P w K mg base 1 "all_ticks" spAll []) (c_own_tick : C8.Cal P w K mg base 1 "own_tick" spOwn []) (c_place_of : C8.Cal P w K mg base 1 "place_of" spPlace []) (me : Meth K C "place_at" f) (F : C8.Fun K "place_at" "Film.place_at" s_place_at f fd) (b : Binds K fd ["self", "tick"] []) : C8.Met P w K mg base 2 C "place_at" (spAt C) [] := by
  refine C8.met0 L.cl me F b sc_place_at (fun vs H Q E h => ?_) (fun cdv A outer s H vs Q E hr h => ?_)
  · obtain ⟨S, a, pa, st, t, rfl, _⟩ := h; rfl
  · obtain ⟨S, a, pa, st, t, rfl, ⟨dx, fa, qs, fi⟩, gf, k⟩ := h
    refine ⟨_, (pss_one (ps_ret (C8.pe_c c_place_of hr (by decide) rfl (pa_cons (pe_fld (pv 0) rfl) (pa_cons (C8.pe_c c_own_tick hr (by decide) rfl (pa_cons (pv 1) (pa_cons (C8.pe_c c_all_ticks hr (by decide) rfl (pa_cons (pe_fld (pv 0) rfl) pa_nil)) (pa_cons (pe_fld (pv 0) rfl) pa_nil)))) pa_nil))))), ?_⟩
    have n1 := gf.long1
    have n2 := gf.lg
    have n3 := gf.n12
    have hfr : Ev (tFld K (tVar 0) "frames") (start ["self", "tick"] [V.ref a, nV t]) H (.ref fa) := ev_fld (ev_var rfl) fi.at_ L.cl L.n_frames (fF_frames ..)
    have hgo : Ev (tFld K (tVar 0) "goes_on") (start ["self", "tick"] [V.ref a, nV t]) H (nV st.film.loop) := ev_fld (ev_var rfl) fi.at_ L.cl L.n_goes_on (fF_goes_on ..)
    have e : st.film.place t = Ie12.placeIn st.film.frames 0 (ownT t (tks st.film.frames) st.film.loop) := by
      rw [← home_eq t gf]; rfl
    rw [e] at k
    exact s_retU (eu_call (ea_cons hfr (ea_cons (ev_call (ea_cons (ev_var (v := nV t) rfl) (ea_cons (ev_call (ea_cons hfr ea_nil) fun H1 e1 Q q _ => ⟨_, fa, _, rfl, fi.fr.ex e1, by omega, q⟩) (ea_cons hgo ea_nil))) fun H1 e1 Q q _ => ⟨t, _, _, rfl, n1, n2, q⟩) ea_nil)) fun H1 e1 Q q _ => ⟨_, fa, _, _, rfl, fi.fr.ex e1, ownT_lt n1, q⟩) k
end
end FF

set_option Elab.async false
set_option linter.all false
set_option maxRecDepth 100000
set_option maxHeartbeats 2000000
namespace FF
open PySem PySem.Spec PyProof.Rows L2 Evl
/-! ### frames by evaluation -/
def EvFr (S : Addr → Prop) (te : TE) (σ : L2.St) (H : Hp) (fs : List Ie12.Frame) : Prop := ∀ H1, Ex H H1 → ∀ Q : VK, (∀ p H2, Ex H1 H2 → FrsAt S H2 p fs → Q (.ref p) H2) → te σ H1 Q
section
variable {K : PySem.W.Frag} {σ : L2.St} {H : Hp} {ta te : TE} {S : Addr → Prop} {fs : List Ie12.Frame} {D : Ends} {tz : TS} {C a pa dx fa : Addr} {qs : List (Addr × Ie12.Film)} {st : Ie12.St}
theorem fr_ev {p : Addr} (h : Ev te σ H (.ref p)) (hf : FrsAt S H p fs) : EvFr S te σ H fs := fun H1 e _ q => h H1 e _ fun H2 e2 => q p H2 e2 (hf.ex (e.trans e2))
theorem fr_is {gs : List Ie12.Frame} (h : EvFr S te σ H fs) (e : fs = gs) : EvFr S te σ H gs := by
  rw [← e]
  exact h
theorem fr_call {sp : Sp} {vs : List V} {E : XK} {t : TA} (h : EvA t σ H vs) (hs : ∀ H1, Ex H H1 → ∀ Q : VK, RetF S fs H1 Q → sp vs H1 Q E) : EvFr S (tCall sp [] E t) σ H fs := fun H1 e Q q =>
  h H1 e _ fun H2 e2 => by
    rw [List.append_nil]
    exact hs H2 (e.trans e2) Q fun p H3 np e3 hf => q p H3 (e2.trans e3) hf
/-- .. with a new tuple as its third argument -/
theorem fr_callU {sp : Sp} {x y : V} {xs : List V} {E : XK} {tb tc : TE} (h1 : Ev ta σ H x) (h2 : Ev tb σ H y) (h3 : EvU tc σ H xs) (hs : ∀ t H1, H t = none → Ex H H1 → H1 t = some (.tup xs) → ∀ Q : VK, RetF S fs H1 Q → sp [x, y, .ref t] H1 Q E) : EvFr S (tCall sp [] E (tCons ta (tCons tb (tCons tc tNil)))) σ H fs := fun H1 e Q q =>
  h1 H1 e _ fun H2 e2 => h2 H2 (e.trans e2) _ fun H3 e3 => h3 H3 ((e.trans e2).trans e3) _ fun t H4 nt e4 h4 =>
    hs t H4 (fresh_back ((e.trans e2).trans e3) nt) (((e.trans e2).trans e3).trans e4) h4 Q fun p H5 np e5 hf => q p H5 (((e2.trans e3).trans e4).trans e5) hf
theorem q_asgF {i : Nat} (h : EvFr S te σ H fs) (k : ∀ p H1, Ex H H1 → FrsAt S H1 p fs → tz D (σ.set i (some (.ref p))) H1) : tSeq (tAsg te (gName i)) tz D σ H := h H (Ex.refl H) _ fun p H1 e hf => k p H1 e hf
/-- what a call gives back: its answer in a new list, the film as the call leaves it; S is as it was -/
def RetC (C : Addr) (S : Addr → Prop) (a : Addr) (r : Ie12.St × List Int) (H : Hp) (Q : VK) : Prop := ∀ p pa' H', ¬ S p → (∀ b o, S b → H b = some o → H' b = some o) → FilmAt C S H' a pa' r.1 → H' p = some (.lst (r.2.map V.int)) → Q (.ref p) H'
theorem RetC.is {r q : Ie12.St × List Int} {Q : VK} (k : RetC C S a r H Q) (e : r = q) : RetC C S a q H Q := e ▸ k
theorem RetC.toB {f : Ie12.Film} {H1 : Hp} {Q : VK} (k : RetC C S a (Ie12.become st f) H Q) (e : Ex H H1) (na : ¬ S a) (np : ¬ S pa) : RetB C S a pa st f H1 Q := fun p pa' H' nS hB hf hp => by
  refine k p pa' H' nS (fun b o sb hb => hB b o (e b o hb) (fun z => na (z ▸ sb)) (fun z => np (z ▸ sb))) hf ?_
  rw [hp]
  show _ = some (HO.lst ((Ie12.ints [f.frames.length, f.long]).map V.int))
  rw [long_eq]
  rfl
/-- return [REFUSED] -/
theorem s_refuse {z : Int} {r : Ie12.St × List Int} {H1 : Hp} (k : RetC C S a r H D.rt) (e : Ex H H1) (hk : Kn S H) (fi : FilmIn C S H a pa dx fa qs st) (hr : r = (st, [z])) (h : Ev te σ H1 (.int z)) : tRet (tLst (tCons te tNil)) D σ H1 := by
  subst hr
  exact s_retL (el_lst (ea_cons h ea_nil) (by simp)) fun p H2 np e2 h2 => k p pa H2 (hk.ne (fresh_back e np)) (fun b o _ hb => (e.trans e2) b o hb) ⟨dx, fa, qs, fi.ex (e.trans e2)⟩ h2
/-- return film.change_frames(..) -/
theorem s_change {H1 : Hp} {E : XK} (hF : EvFr (S2 S a pa) te σ H1 fs) (hv : Ev ta σ H1 (.ref a)) (e : Ex H H1) (hk : Kn S H) (fi : FilmIn C S H a pa dx fa qs st) (ho : st.old.length ≤ 8) (hz : fs.length ≤ 1000)
    (k : RetC C S a (Ie12.become st { st.film with frames := fs }) H D.rt) : tRet (tMeth C "change_frames" (spChange C) [] E ta (tCons te tNil)) D σ H1 :=
  hv H1 (Ex.refl H1) _ fun H2 e2 => ⟨a, dx, _, rfl, (e.trans e2) _ _ fi.at_, fF_no_change_frames .., hF H2 e2 _ fun p H3 e3 hf =>
    ⟨S, a, pa, p, st, fs, rfl, hk.ex ((e.trans e2).trans e3), ⟨dx, fa, qs, fi.ex ((e.trans e2).trans e3)⟩, ho, hf, hz, k.toB ((e.trans e2).trans e3) fi.na fi.npa⟩⟩
theorem FilmIn.kn (fi : FilmIn C S H a pa dx fa qs st) (hk : Kn S H) : Kn (S2 S a pa) H := fun b sb => by
  rcases sb with sb | sb | sb
  · exact hk b sb
  · rw [sb, fi.at_]; exact fun z => by cases z
  · rw [sb, fi.past]; exact fun z => by cases z
end
/-- what every call promises -/
def spCall (K : PySem.W.Frag) (C : Addr) (n : Nat) (cl : List Nat → Ie12.Call) : Sp := fun vs H Q _ => ∃ (S : Addr → Prop) (a pa g : Addr) (st : Ie12.St) (args : List Nat), vs = [.ref a, .ref g] ∧ Kn S H ∧ FilmAt C S H a pa st ∧ GoodS st ∧ SqL K H g (args.map nV) ∧ args.length = n ∧ RetC C S a (Ie12.step st (cl args)) H Q
theorem len1 {α : Type} {l : List α} (h : l.length = 1) : ∃ x, l = [x] := by
  cases l with
  | nil => cases h
  | cons x r => cases r with
    | nil => exact ⟨x, rfl⟩
    | cons _ _ => simp at h
theorem len2 {α : Type} {l : List α} (h : l.length = 2) : ∃ x y, l = [x, y] := by
  cases l with
  | nil => cases h
  | cons x r =>
    obtain ⟨y, e⟩ := len1 (l := r) (by simpa using h)
    exact ⟨x, y, by rw [e]⟩
theorem len6 {α : Type} {l : List α} (h : l.length = 6) : ∃ a b c d e f, l = [a, b, c, d, e, f] := by
  match l, h with
  | [a, b, c, d, e, f], _ => exact ⟨a, b, c, d, e, f, rfl⟩

section
variable {P : Program} {w : World} {K : PySem.W.Frag} {mg : Str → Option Value} {base : Heap} {C : Addr}
/-! ### is_size, page -/
def spIsSize : Sp := fun vs H Q _ => ∃ (wd ht : Nat), vs = [nV wd, nV ht] ∧ RetV (.bl (Ie12.sizeOk wd ht)) H Q
theorem ok_is_size {f : Addr} {fd : FuncData} (T : Txt mg) (F : C8.Def K mg "is_size" s_is_size f fd) (b : Binds K fd ["width", "height"] []) : C8.Cal P w K mg base 1 "is_size" spIsSize [] := by
  refine C8.cal0 F b .nil sc_is_size (fun vs H Q E h => ?_) (fun cdv A outer s H vs Q E hr h => ?_)
  · obtain ⟨wd, ht, rfl, _⟩ := h; rfl
  · obtain ⟨wd, ht, rfl, k⟩ := h
    have e : Ie12.sizeOk wd ht = ((decide (1 ≤ wd) && decide (wd ≤ 6)) && (decide (1 ≤ ht) && decide (ht ≤ 6))) := by
      unfold Ie12.sizeOk
      rw [Bool.and_assoc]
    rw [e] at k
    refine ⟨_, (pss_one (ps_ret (pe_and (pe_chain op_le op_le pe_int (pv 0) (C8.pe_gc rfl T.c_MOST_SIDE)) (pe_one (pe_chain op_le op_le pe_int (pv 1) (C8.pe_gc rfl T.c_MOST_SIDE)))))), ?_⟩
    exact s_ret (ev_andV (ev_chain (ev_c (v := nV 1)) (ev_var (v := nV wd) rfl) rv_leN fun _ => ⟨ev_c (v := nV 6), rv_leN⟩) fun _ => ev_chain (ev_c (v := nV 1)) (ev_var (v := nV ht) rfl) rv_leN fun _ => ⟨ev_c (v := nV 6), rv_leN⟩) k
theorem ok_page {f : Addr} {fd : FuncData} (T : Txt mg) (L : Cla K C) (c_is_size : C8.Cal P w K mg base 1 "is_size" spIsSize []) (m_begin : C8.Met P w K mg base 3 C "begin" (spBegin C) []) (m_extent : C8.Met P w K mg base 2 C "extent" (spExtent C) []) (F : C8.Def K mg "page" s_page f fd) (b : Binds K fd ["film", "given"] []) :
    C8.Cal P w K mg base 4 "page" (spCall K C 2 fun l => .page (l.getD 0 0) (l.getD 1 0)) [] := by
  refine C8.cal0 F b .nil sc_page (fun vs H Q E h => ?_) (fun cdv A outer s H vs Q E hr h => ?_)
  · obtain ⟨S, a, pa, g, st, args, rfl, _⟩ := h; rfl
  · obtain ⟨S, a, pa, g, st, args, rfl, hk, ⟨dx, fa, qs, fi⟩, gs, hg, hl, k⟩ := h
    obtain ⟨wd, ht, rfl⟩ := len2 hl
    replace k : RetC C S a (Ie12.step st (.page wd ht)) H Q := k
    refine ⟨_, (pss_cons (ps_if (pt_not (pt_val (C8.pe_c c_is_size hr (by decide) rfl (pa_cons (pe_ix ix_list (pv 1) pe_int (fun _ _ => rfl)) (pa_cons (pe_ix ix_list (pv 1) pe_int (fun _ _ => rfl)) pa_nil)))))
        (pss_one (ps_ret (pe_lst (pa_cons (C8.pe_gc rfl T.c_BAD_SIZE) pa_nil))))
        pss_nil)
      (pss_cons (ps_expr (C8.pe_mt m_begin hr (by decide) (pv 0) (pa_cons (pe_ix ix_list (pv 1) pe_int (fun _ _ => rfl)) (pa_cons (pe_ix ix_list (pv 1) pe_int (fun _ _ => rfl)) pa_nil))))
      (pss_one (ps_ret (C8.pe_mt0 m_extent hr (by decide) (pv 0)))))), ?_⟩
    have g0 : ∀ {H1}, Ex H H1 → Ev (tOp (rIxL K) (tVar 1) (tC (.int 0))) (start ["film", "given"] [V.ref a, .ref g]) H1 (nV wd) := fun e => ev_op (ev_var rfl) (ev_c (v := nV 0)) (rv_ixLN (ex_l e hg) rfl)
    have g1 : ∀ {H1}, Ex H H1 → Ev (tOp (rIxL K) (tVar 1) (tC (.int 1))) (start ["film", "given"] [V.ref a, .ref g]) H1 (nV ht) := fun e => ev_op (ev_var rfl) (ev_c (v := nV 1)) (rv_ixLN (ex_l e hg) rfl)
    refine q_when (et_not (et_B (ev_call (ea_cons (g0 (Ex.refl H)) (ea_cons (g1 (Ex.refl H)) ea_nil)) fun H1 e1 Q q _ => ⟨wd, ht, rfl, q⟩))) (fun hb H1 e1 => ?_) (fun hb H1 e1 => ?_)
    · refine s_refuse k e1 hk fi ?_ ev_c
      have hs : Ie12.sizeOk wd ht = false := by simpa using hb
      show (if Ie12.sizeOk wd ht = false then _ else _) = _
      rw [if_pos hs]
    · have hs : Ie12.sizeOk wd ht = true := by simpa using hb
      have hs2 := sizeOk_iff.mp hs
      refine ⟨_, rfl, a, dx, _, rfl, e1 _ _ fi.at_, fF_no_begin .., ?_⟩
      refine (g0 e1) H1 (Ex.refl H1) _ fun H3 e3 => (g1 (e1.trans e3)) H3 (Ex.refl H3) _ fun H4 e4 => ?_
      have e14 : Ex H H4 := (e1.trans e3).trans e4
      refine ⟨S, a, dx, _, wd, ht, rfl, hk.ex e14, fi.na, e14 _ _ fi.at_, .inr ⟨_, _, _, _, _, rfl⟩, hs2.1.2, hs2.2.2, fun H5 p5 hB _ hf => ?_⟩
      obtain ⟨dx5, fa5, qs5, fi5⟩ := hf
      refine ⟨_, rfl, a, dx5, _, rfl, fi5.at_, fF_no_extent .., S, a, p5, _, rfl, ⟨dx5, fa5, qs5, fi5⟩, by exact (by decide : 1 ≤ 1000), fun p H6 np e6 h6 => ?_⟩
      have nS : ¬ S p := fun sp => by
        have : H4 p ≠ none := hk.ex e14 p sp
        cases q : H4 p with
        | none => exact this q
        | some o =>
          rw [hB p o q (fun z => fi.na (z ▸ sp))] at np
          cases np
      have hstep : Ie12.step st (.page wd ht) = (⟨⟨wd, ht, [⟨Ie12.blank wd ht, 1⟩], 0⟩, []⟩, [1, 1]) := by
        show (if Ie12.sizeOk wd ht = false then _ else _) = _
        rw [hs, if_neg (by decide)]
      rw [hstep] at k
      refine k p p5 H6 nS (fun b o sb hb => e6 _ _ (hB b o (e14 _ _ hb) (fun z => fi.na (z ▸ sb)))) ⟨dx5, fa5, qs5, fi5.ex e6⟩ h6

/-! ### put, drop -/
theorem et_has {σ : L2.St} {H : Hp} {te ta : TE} {E : XK} {S : Addr → Prop} {a pa dx fa : Addr} {qs : List (Addr × Ie12.Film)} {st : Ie12.St} {i : Nat} (hv : Ev ta σ H (.ref a)) (h : Ev te σ H (nV i)) (fi : FilmIn C S H a pa dx fa qs st) : EvT (tNot (tB (tMeth C "has_frame" (spHas C) [] E ta (tCons te tNil)))) σ H (!decide (i < st.film.frames.length)) :=
  et_not (et_B (ev_meth hv fi.at_ (fF_no_has_frame ..) (ea_cons h ea_nil) fun H1 e1 Q q _ => ⟨S, a, pa, st, i, rfl, ⟨dx, fa, qs, fi.ex e1⟩, q⟩))
theorem ev_frames {σ : L2.St} {H : Hp} {ta : TE} {S : Addr → Prop} {a pa dx fa : Addr} {qs : List (Addr × Ie12.Film)} {st : Ie12.St} (L : Cla K C) (hv : Ev ta σ H (.ref a)) (fi : FilmIn C S H a pa dx fa qs st) : Ev (tFld K ta "frames") σ H (.ref fa) := ev_fld hv fi.at_ L.cl L.n_frames (fF_frames ..)
theorem ev_count {σ : L2.St} {H : Hp} {ta : TE} {S : Addr → Prop} {a pa dx fa : Addr} {qs : List (Addr × Ie12.Film)} {st : Ie12.St} (L : Cla K C) (hv : Ev ta σ H (.ref a)) (fi : FilmIn C S H a pa dx fa qs st) : Ev (tCB (rLenS K) (tCons (tFld K ta "frames") tNil)) σ H (nV st.film.frames.length) := by
  obtain ⟨ps, e, _, hl, _⟩ := id fi.fr
  exact ev_is (ev_lenL (ev_frames L hv fi) (sq_of hl)) (by rw [← e, List.length_map, List.length_map])
theorem ev_all {σ : L2.St} {H : Hp} {te : TE} {S : Addr → Prop} {fs : List Ie12.Frame} {p : Addr} {E : XK} (h : Ev te σ H (.ref p)) (hf : FrsAt S H p fs) (hz : fs.length ≤ 1000) : Ev (tCall spAll [] E (tCons te tNil)) σ H (nV (tks fs)) := ev_call (ea_cons h ea_nil) fun H1 e1 Q q _ => ⟨S, p, fs, rfl, hf.ex e1, hz, q⟩
theorem ok_put {f : Addr} {fd : FuncData} (T : Txt mg) (L : Cla K C) (c_doubled : C8.Cal P w K mg base 1 "doubled" spDoubled []) (c_all_ticks : C8.Cal P w K mg base 1 "all_ticks" spAll []) (m_has_frame : C8.Met P w K mg base 1 C "has_frame" (spHas C) []) (m_change_frames : C8.Met P w K mg base 3 C "change_frames" (spChange C) []) (F : C8.Def K mg "put" s_put f fd) (b : Binds K fd ["film", "given"] []) :
    C8.Cal P w K mg base 4 "put" (spCall K C 1 fun l => .put (l.getD 0 0)) [] := by
  refine C8.cal0 F b .nil sc_put (fun vs H Q E h => ?_) (fun cdv A outer s H vs Q E hr h => ?_)
  · obtain ⟨S, a, pa, g, st, args, rfl, _⟩ := h; rfl
  · obtain ⟨S, a, pa, g, st, args, rfl, hk, ⟨dx, fa, qs, fi⟩, gs, hg, hl, k⟩ := h
    obtain ⟨i, rfl⟩ := len1 hl
    replace k : RetC C S a (Ie12.step st (.put i)) H Q := k
    have n12 := gs.film.n12
    refine ⟨_, (pss_cons (ps_set (i := 2) sc_put.nd rfl (.inl rfl) (pe_ix ix_list (pv 1) pe_int (fun _ _ => rfl)))
      (pss_cons (ps_if (pt_not (pt_val (C8.pe_mt m_has_frame hr (by decide) (pv 0) (pa_cons (pv 2) pa_nil))))
        (pss_one (ps_ret (pe_lst (pa_cons (C8.pe_gc rfl T.c_NO_FRAME) pa_nil))))
        pss_nil)
      (pss_cons (ps_if (pt_cmpR op_eq (pe_callB call_len_seq (by rfl) T.b_len PySem.boot_len (pa_cons (pe_fld (pv 0) rfl) pa_nil)) (C8.pe_gc rfl T.c_MOST_FRAMES) (nomark _))
        (pss_one (ps_ret (pe_lst (pa_cons (C8.pe_gc rfl T.c_BAD_FRAME_COUNT) pa_nil))))
        pss_nil)
      (pss_cons (ps_set (i := 3) sc_put.nd rfl (.inl rfl) (C8.pe_c c_doubled hr (by decide) rfl (pa_cons (pe_fld (pv 0) rfl) (pa_cons (pv 2) pa_nil))))
      (pss_cons (ps_if (pt_cmpR op_gt (C8.pe_c c_all_ticks hr (by decide) rfl (pa_cons (pv 3) pa_nil)) (C8.pe_gc rfl T.c_MOST_TICKS) (nomark _))
        (pss_one (ps_ret (pe_lst (pa_cons (C8.pe_gc rfl T.c_BAD_TICKS) pa_nil))))
        pss_nil)
      (pss_one (ps_ret (C8.pe_mt m_change_frames hr (by decide) (pv 0) (pa_cons (pv 3) pa_nil))))))))), ?_⟩
    refine q_asg (v := nV i) (ev_op (ev_var rfl) (ev_c (v := nV 0)) (rv_ixLN hg rfl)) fun H1 e1 => ?_
    refine q_when (et_has (ev_var rfl) (ev_var rfl) (fi.ex e1)) (fun hb H2 e2 => ?_) (fun hb H2 e2 => ?_)
    · refine s_refuse k (e1.trans e2) hk fi ?_ ev_c
      have : ¬ i < st.film.frames.length := of_decide_eq_false (by simpa using hb)
      show (match st.film.frames[i]? with | none => _ | some x => _) = _
      rw [List.getElem?_eq_none (by omega)]
    · have hi : i < st.film.frames.length := of_decide_eq_true (by simpa using hb)
      obtain ⟨x, hx⟩ : ∃ x, st.film.frames[i]? = some x := ⟨_, List.getElem?_eq_getElem hi⟩
      have hstep : Ie12.step st (.put i) = if Ie12.FRAMES ≤ st.film.frames.length then (st, [-5]) else if Ie12.TICKS < st.film.long + x.ticks then (st, [-6]) else Ie12.become st { st.film with frames := st.film.frames.take (i + 1) ++ x :: st.film.frames.drop (i + 1) } := by
        show (match st.film.frames[i]? with | none => _ | some x => _) = _
        rw [hx]
      rw [hstep] at k
      have e12 := e1.trans e2
      refine q_when (et_test (ev_op (ev_count L (ev_var rfl) (fi.ex e12)) (ev_c (v := nV 12)) rv_eqN)) (fun hb2 H3 e3 => ?_) (fun hb2 H3 e3 => ?_)
      · have := of_decide_eq_true hb2
        exact s_refuse k (e12.trans e3) hk fi (if_pos (by show 12 ≤ _; omega)) ev_c
      · have hn := of_decide_eq_false hb2
        rw [if_neg (by show ¬ 12 ≤ _; omega)] at k
        have e13 := e12.trans e3
        refine q_asgF (fr_call (S := S2 S a pa) (fs := st.film.frames.take (i + 1) ++ st.film.frames.drop i) (ea_cons (ev_frames L (ev_var rfl) (fi.ex e13)) (ea_cons (ev_var (v := nV i) rfl) ea_nil)) fun H4 e4 Q q => ⟨_, fa, _, i, rfl, (fi.kn hk).ex (e13.trans e4), fi.fr.ex (e13.trans e4), by omega, q⟩) fun p H4 e4 hf => ?_
        rw [doubled_eq hx] at hf
        have hlen : (st.film.frames.take (i + 1) ++ x :: st.film.frames.drop (i + 1)).length ≤ 1000 := by
          rw [List.length_append, List.length_cons, List.length_take, List.length_drop]; omega
        refine q_when (et_test (ev_op (ev_all (ev_var rfl) hf hlen) (ev_c (v := nV 1000)) rv_gtN)) (fun hb3 H5 e5 => ?_) (fun hb3 H5 e5 => ?_)
        · have h3 := of_decide_eq_true hb3
          rw [tks_doubled hx] at h3
          exact s_refuse k ((e13.trans e4).trans e5) hk fi (if_pos (by rw [long_eq]; exact h3)) ev_c
        · have h3 := of_decide_eq_false hb3
          rw [tks_doubled hx] at h3
          rw [if_neg (by rw [long_eq]; exact h3)] at k
          exact s_change (fr_ev (ev_var rfl) (hf.ex e5)) (ev_var rfl) ((e13.trans e4).trans e5) hk fi gs.few hlen k
theorem ok_drop {f : Addr} {fd : FuncData} (T : Txt mg) (L : Cla K C) (c_without : C8.Cal P w K mg base 1 "without" spWithout []) (m_has_frame : C8.Met P w K mg base 1 C "has_frame" (spHas C) []) (m_change_frames : C8.Met P w K mg base 3 C "change_frames" (spChange C) []) (F : C8.Def K mg "drop" s_drop f fd) (b : Binds K fd ["film", "given"] []) :
    C8.Cal P w K mg base 4 "drop" (spCall K C 1 fun l => .drop (l.getD 0 0)) [] := by
  refine C8.cal0 F b .nil sc_drop (fun vs H Q E h => ?_) (fun cdv A outer s H vs Q E hr h => ?_)
  · obtain ⟨S, a, pa, g, st, args, rfl, _⟩ := h; rfl
  · obtain ⟨S, a, pa, g, st, args, rfl, hk, ⟨dx, fa, qs, fi⟩, gs, hg, hl, k⟩ := h
    obtain ⟨i, rfl⟩ := len1 hl
    replace k : RetC C S a (if st.film.frames.length ≤ i then (st, [-2]) else if st.film.frames.length = 1 then (st, [-5]) else Ie12.become st { st.film with frames := st.film.frames.eraseIdx i }) H Q := k
    have n12 := gs.film.n12
    refine ⟨_, (pss_cons (ps_set (i := 2) sc_drop.nd rfl (.inl rfl) (pe_ix ix_list (pv 1) pe_int (fun _ _ => rfl)))
      (pss_cons (ps_if (pt_not (pt_val (C8.pe_mt m_has_frame hr (by decide) (pv 0) (pa_cons (pv 2) pa_nil))))
        (pss_one (ps_ret (pe_lst (pa_cons (C8.pe_gc rfl T.c_NO_FRAME) pa_nil))))
        pss_nil)
      (pss_cons (ps_if (pt_cmpR op_eq (pe_callB call_len_seq (by rfl) T.b_len PySem.boot_len (pa_cons (pe_fld (pv 0) rfl) pa_nil)) pe_int (nomark _))
        (pss_one (ps_ret (pe_lst (pa_cons (C8.pe_gc rfl T.c_BAD_FRAME_COUNT) pa_nil))))
        pss_nil)
      (pss_one (ps_ret (C8.pe_mt m_change_frames hr (by decide) (pv 0) (pa_cons (C8.pe_c c_without hr (by decide) rfl (pa_cons (pe_fld (pv 0) rfl) (pa_cons (pv 2) pa_nil))) pa_nil))))))), ?_⟩
    refine q_asg (v := nV i) (ev_op (ev_var rfl) (ev_c (v := nV 0)) (rv_ixLN hg rfl)) fun H1 e1 => ?_
    refine q_when (et_has (ev_var rfl) (ev_var rfl) (fi.ex e1)) (fun hb H2 e2 => ?_) (fun hb H2 e2 => ?_)
    · have : ¬ i < st.film.frames.length := of_decide_eq_false (by simpa using hb)
      exact s_refuse k (e1.trans e2) hk fi (if_pos (by omega)) ev_c
    · have hi : i < st.film.frames.length := of_decide_eq_true (by simpa using hb)
      rw [if_neg (by omega)] at k
      have e12 := e1.trans e2
      refine q_when (et_test (ev_op (ev_count L (ev_var rfl) (fi.ex e12)) (ev_c (v := nV 1)) rv_eqN)) (fun hb2 H3 e3 => ?_) (fun hb2 H3 e3 => ?_)
      · exact s_refuse k (e12.trans e3) hk fi (if_pos (of_decide_eq_true hb2)) ev_c
      · rw [if_neg (of_decide_eq_false hb2), erase_eq] at k
        have e13 := e12.trans e3
        refine s_change (fr_call (ea_cons (ev_frames L (ev_var rfl) (fi.ex e13)) (ea_cons (ev_var (v := nV i) rfl) ea_nil)) fun H4 e4 Q q => ⟨_, fa, _, i, rfl, (fi.kn hk).ex (e13.trans e4), fi.fr.ex (e13.trans e4), by omega, q⟩) (ev_var rfl) e13 hk fi gs.few ?_ k
        rw [List.length_append, List.length_take, List.length_drop]; omega

/-! ### box, ticks -/
theorem ok_box {f : Addr} {fd : FuncData} (T : Txt mg) (L : Cla K C) (c_filled : C8.Cal P w K mg base 2 "filled" (spFilled K) []) (c_replaced : C8.Cal P w K mg base 1 "replaced" spReplaced []) (m_has_frame : C8.Met P w K mg base 1 C "has_frame" (spHas C) []) (m_change_frames : C8.Met P w K mg base 3 C "change_frames" (spChange C) []) (F : C8.Def K mg "box" s_box f fd) (b : Binds K fd ["film", "given"] []) :
    C8.Cal P w K mg base 4 "box" (spCall K C 6 fun l => .box (l.getD 0 0) (l.getD 1 0) (l.getD 2 0) (l.getD 3 0) (l.getD 4 0) (l.getD 5 0)) [] := by
  refine C8.cal0 F b .nil sc_box (fun vs H Q E h => ?_) (fun cdv A outer s H vs Q E hr h => ?_)
  · obtain ⟨S, a, pa, g, st, args, rfl, _⟩ := h; rfl
  · obtain ⟨S, a, pa, g, st, args, rfl, hk, ⟨dx, fa, qs, fi⟩, gs, hg, hl, k⟩ := h
    obtain ⟨i, x, y, u, v, n, rfl⟩ := len6 hl
    replace k : RetC C S a (Ie12.step st (.box i x y u v n)) H Q := k
    have n12 := gs.film.n12
    refine ⟨_, (pss_cons (ps_set (i := 2) sc_box.nd rfl (.inl rfl) (pe_ix ix_list (pv 1) pe_int (fun _ _ => rfl)))
      (pss_cons (ps_set (i := 3) sc_box.nd rfl (.inl rfl) (pe_ix ix_list (pv 1) pe_int (fun _ _ => rfl)))
      (pss_cons (ps_if (pt_not (pt_val (C8.pe_mt m_has_frame hr (by decide) (pv 0) (pa_cons (pv 2) pa_nil))))
        (pss_one (ps_ret (pe_lst (pa_cons (C8.pe_gc rfl T.c_NO_FRAME) pa_nil))))
        pss_nil)
      (pss_cons (ps_if (pt_cmpR op_gt (pv 3) (C8.pe_gc rfl T.c_MOST_NUMBER) (nomark _))
        (pss_one (ps_ret (pe_lst (pa_cons (C8.pe_gc rfl T.c_BAD_NUMBER) pa_nil))))
        pss_nil)
      (pss_cons (ps_set (i := 4) sc_box.nd rfl (.inl rfl) (pe_ix ix_list (pe_fld (pv 0) rfl) (pv 2) (fun _ _ => rfl)))
      (pss_cons (ps_set (i := 5) sc_box.nd rfl (.inl rfl) (C8.pe_c c_filled hr (by decide) rfl (pa_cons (pe_ix ix_tup (pv 4) pe_int (fun _ _ => rfl)) (pa_cons (pe_fld (pv 0) rfl) (pa_cons (pe_slice sl_list (pv 1) (po_some pe_int) (po_some pe_int)) (pa_cons (pv 3) pa_nil))))))
      (pss_one (ps_ret (C8.pe_mt m_change_frames hr (by decide) (pv 0) (pa_cons (C8.pe_c c_replaced hr (by decide) rfl (pa_cons (pe_fld (pv 0) rfl) (pa_cons (pv 2) (pa_cons (pe_tup (pa_cons (pe_ix ix_tup (pv 4) pe_int (fun _ _ => rfl)) (pa_cons (pv 5) pa_nil))) pa_nil)))) pa_nil)))))))))), ?_⟩
    refine q_asg (v := nV i) (ev_op (ev_var rfl) (ev_c (v := nV 0)) (rv_ixLN hg rfl)) fun H1 e1 => ?_
    refine q_asg (v := nV n) (ev_op (ev_var rfl) (ev_c (v := nV 5)) (rv_ixLN (ex_l e1 hg) rfl)) fun H2 e2 => ?_
    have e12 := e1.trans e2
    refine q_when (et_has (ev_var rfl) (ev_var rfl) (fi.ex e12)) (fun hb H3 e3 => ?_) (fun hb H3 e3 => ?_)
    · refine s_refuse k (e12.trans e3) hk fi ?_ ev_c
      have : ¬ i < st.film.frames.length := of_decide_eq_false (by simpa using hb)
      show (match st.film.frames[i]? with | none => _ | some x => _) = _
      rw [List.getElem?_eq_none (by omega)]
    · have hi : i < st.film.frames.length := of_decide_eq_true (by simpa using hb)
      obtain ⟨fr, hx⟩ : ∃ x, st.film.frames[i]? = some x := ⟨_, List.getElem?_eq_getElem hi⟩
      have hstep : Ie12.step st (.box i x y u v n) = if 255 < n then (st, [-3]) else Ie12.become st { st.film with frames := st.film.frames.set i ⟨fill st.film.w x y u v n fr.cells, fr.ticks⟩ } := by
        rw [fill_eq]
        show (match st.film.frames[i]? with | none => _ | some x => _) = _
        rw [hx]
      rw [hstep] at k
      have e13 := e12.trans e3
      refine q_when (et_test (ev_op (ev_var (v := nV n) rfl) (ev_c (v := nV 255)) rv_gtN)) (fun hb2 H4 e4 => ?_) (fun hb2 H4 e4 => ?_)
      · exact s_refuse k (e13.trans e4) hk fi (if_pos (of_decide_eq_true hb2)) ev_c
      · rw [if_neg (of_decide_eq_false hb2), set_eq hi] at k
        have e14 := e13.trans e4
        have gx := gs.film.fr fr (List.mem_of_getElem? hx)
        obtain ⟨xs, t, c, hfa, hxs, nt, htt, hc⟩ := fi.fr.at hx
        refine q_asg (v := .ref t) (ev_op (ev_frames L (ev_var rfl) (fi.ex e14)) (ev_var (v := nV i) rfl) (rv_ixLN (sq_of (e14 _ _ hfa)) hxs)) fun H5 e5 => ?_
        have e15 := e14.trans e5
        -- cells = filled(frame[1], film.width, given[1:5], number)
        have a1 : Ev (tOp (rIxT K) (tVar 4) (tC (.int 1))) [some (.ref a), some (.ref g), some (nV i), some (nV n), some (.ref t), none] H5 (.ref c) := ev_op (ev_var rfl) (ev_c (v := nV 1)) (rv_ixTN (st_of (e15 _ _ htt)) rfl)
        refine a1 H5 (Ex.refl H5) _ fun H6 e6 => ?_
        have a2 : Ev (tFld K (tVar 0) "width") [some (.ref a), some (.ref g), some (nV i), some (nV n), some (.ref t), none] H6 (nV st.film.w) := ev_fld (ev_var rfl) ((e15.trans e6) _ _ fi.at_) L.cl L.n_width (fF_width ..)
        refine a2 H6 (Ex.refl H6) _ fun H7 e7 => ?_
        have e17 := (e15.trans e6).trans e7
        have a3 : EvL (tSl (rSlL K) (tVar 1) (tPart (tC (.int 1))) (tPart (tC (.int 5)))) [some (.ref a), some (.ref g), some (nV i), some (nV n), some (.ref t), none] H7 [nV x, nV y, nV u, nV v] := el_is (el_sl (ev_var rfl) (eo_nat (i := 1) ev_c) (eo_nat (i := 5) ev_c) (ex_l e17 hg)) (by rw [cut_mid _ 1 5 (by decide) (by simp)]; rfl)
        refine a3 H7 (Ex.refl H7) _ fun bx H8 nbx e8 hbx => ?_
        have e18 := e17.trans e8
        have gw := gs.film.area
        refine ⟨_, rfl, c, bx, fr.cells, st.film.w, x, y, u, v, n, rfl, e18 _ _ hc.2, sq_of hbx, by rw [gx.len]; omega, gs.film.w1, gs.film.w6, fun q H9 nq e9 hq => ?_⟩
        have e19 := e18.trans e9
        -- film.change_frames(replaced(film.frames, i, (frame[0], cells)))
        have nq2 : ¬ S2 S a pa q := ((fi.kn hk).ex e18).ne nq
        refine s_change (fr_callU (ev_frames L (ev_var rfl) (fi.ex e19)) (ev_var (v := nV i) rfl) (eu_tup (ea_cons (ev_op (ev_var rfl) (ev_c (v := nV 0)) (rv_ixTN (st_of (e19 _ _ htt)) rfl)) (ea_cons (ev_var (v := .ref q) rfl) ea_nil)) (by simp)) fun tt H10 ntt e10 htt2 Q0 q0 => ⟨S2 S a pa, fa, st.film.frames, i, tt, ⟨fill st.film.w x y u v n fr.cells, fr.ticks⟩, rfl, (fi.kn hk).ex (e19.trans e10), fi.fr.ex (e19.trans e10), ⟨((fi.kn hk).ex e19).ne ntt, q, htt2, nq2, e10 _ _ hq⟩, by omega, q0⟩) (ev_var rfl) e19 hk fi gs.few ?_ k
        rw [List.length_append, List.length_append, List.length_take, List.length_drop]; simp; omega
theorem ok_ticks {f : Addr} {fd : FuncData} (T : Txt mg) (L : Cla K C) (c_replaced : C8.Cal P w K mg base 1 "replaced" spReplaced []) (c_all_ticks : C8.Cal P w K mg base 1 "all_ticks" spAll []) (m_has_frame : C8.Met P w K mg base 1 C "has_frame" (spHas C) []) (m_change_frames : C8.Met P w K mg base 3 C "change_frames" (spChange C) []) (F : C8.Def K mg "ticks" s_ticks f fd) (b : Binds K fd ["film", "given"] []) :
    C8.Cal P w K mg base 4 "ticks" (spCall K C 2 fun l => .ticks (l.getD 0 0) (l.getD 1 0)) [] := by
  refine C8.cal0 F b .nil sc_ticks (fun vs H Q E h => ?_) (fun cdv A outer s H vs Q E hr h => ?_)
  · obtain ⟨S, a, pa, g, st, args, rfl, _⟩ := h; rfl
  · obtain ⟨S, a, pa, g, st, args, rfl, hk, ⟨dx, fa, qs, fi⟩, gs, hg, hl, k⟩ := h
    obtain ⟨i, n, rfl⟩ := len2 hl
    replace k : RetC C S a (Ie12.step st (.ticks i n)) H Q := k
    have n12 := gs.film.n12
    refine ⟨_, (pss_cons (ps_set (i := 2) sc_ticks.nd rfl (.inl rfl) (pe_ix ix_list (pv 1) pe_int (fun _ _ => rfl)))
      (pss_cons (ps_set (i := 3) sc_ticks.nd rfl (.inl rfl) (pe_ix ix_list (pv 1) pe_int (fun _ _ => rfl)))
      (pss_cons (ps_if (pt_not (pt_val (C8.pe_mt m_has_frame hr (by decide) (pv 0) (pa_cons (pv 2) pa_nil))))
        (pss_one (ps_ret (pe_lst (pa_cons (C8.pe_gc rfl T.c_NO_FRAME) pa_nil))))
        pss_nil)
      (pss_cons (ps_if (pt_cmpR op_eq (pv 3) pe_int (nomark _))
        (pss_one (ps_ret (pe_lst (pa_cons (C8.pe_gc rfl T.c_BAD_NUMBER) pa_nil))))
        pss_nil)
      (pss_cons (ps_set (i := 4) sc_ticks.nd rfl (.inl rfl) (C8.pe_c c_replaced hr (by decide) rfl (pa_cons (pe_fld (pv 0) rfl) (pa_cons (pv 2) (pa_cons (pe_tup (pa_cons (pv 3) (pa_cons (pe_ix ix_tup (pe_ix ix_list (pe_fld (pv 0) rfl) (pv 2) (fun _ _ => rfl)) pe_int (fun _ _ => rfl)) pa_nil))) pa_nil)))))
      (pss_cons (ps_if (pt_cmpR op_gt (C8.pe_c c_all_ticks hr (by decide) rfl (pa_cons (pv 4) pa_nil)) (C8.pe_gc rfl T.c_MOST_TICKS) (nomark _))
        (pss_one (ps_ret (pe_lst (pa_cons (C8.pe_gc rfl T.c_BAD_TICKS) pa_nil))))
        pss_nil)
      (pss_one (ps_ret (C8.pe_mt m_change_frames hr (by decide) (pv 0) (pa_cons (pv 4) pa_nil)))))))))), ?_⟩
    refine q_asg (v := nV i) (ev_op (ev_var rfl) (ev_c (v := nV 0)) (rv_ixLN hg rfl)) fun H1 e1 => ?_
    refine q_asg (v := nV n) (ev_op (ev_var rfl) (ev_c (v := nV 1)) (rv_ixLN (ex_l e1 hg) rfl)) fun H2 e2 => ?_
    have e12 := e1.trans e2
    refine q_when (et_has (ev_var rfl) (ev_var rfl) (fi.ex e12)) (fun hb H3 e3 => ?_) (fun hb H3 e3 => ?_)
    · refine s_refuse k (e12.trans e3) hk fi ?_ ev_c
      have : ¬ i < st.film.frames.length := of_decide_eq_false (by simpa using hb)
      show (match st.film.frames[i]? with | none => _ | some x => _) = _
      rw [List.getElem?_eq_none (by omega)]
    · have hi : i < st.film.frames.length := of_decide_eq_true (by simpa using hb)
      obtain ⟨fr, hx⟩ : ∃ x, st.film.frames[i]? = some x := ⟨_, List.getElem?_eq_getElem hi⟩
      have hstep : Ie12.step st (.ticks i n) = if n < 1 then (st, [-3]) else if Ie12.TICKS < st.film.long - fr.ticks + n then (st, [-6]) else Ie12.become st { st.film with frames := st.film.frames.set i ⟨fr.cells, n⟩ } := by
        show (match st.film.frames[i]? with | none => _ | some x => _) = _
        rw [hx]
      rw [hstep] at k
      have e13 := e12.trans e3
      have htk : tks (st.film.frames.set i ⟨fr.cells, n⟩) = st.film.long - fr.ticks + n := by
        have h1 := tks_set (y := ⟨fr.cells, n⟩) hx
        have h2 := tks_set (y := ⟨[], 0⟩) hx
        rw [long_eq]
        dsimp only at h1 h2
        omega
      refine q_when (et_test (ev_op (ev_var (v := nV n) rfl) (ev_c (v := nV 0)) rv_eqN)) (fun hb2 H4 e4 => ?_) (fun hb2 H4 e4 => ?_)
      · have := of_decide_eq_true hb2
        exact s_refuse k (e13.trans e4) hk fi (if_pos (by omega)) ev_c
      · have hn := of_decide_eq_false hb2
        rw [if_neg (by omega)] at k
        have e14 := e13.trans e4
        obtain ⟨xs, t, c, hfa, hxs, nt, htt, hc⟩ := fi.fr.at hx
        rw [set_eq hi] at htk k
        have hlen : (st.film.frames.take i ++ [(⟨fr.cells, n⟩ : Ie12.Frame)] ++ st.film.frames.drop (i + 1)).length ≤ 1000 := by
          rw [List.length_append, List.length_append, List.length_take, List.length_drop]; simp; omega
        refine q_asgF (fr_callU (S := S2 S a pa) (ev_frames L (ev_var rfl) (fi.ex e14)) (ev_var (v := nV i) rfl) (eu_tup (ea_cons (ev_var (v := nV n) rfl) (ea_cons (ev_op (ev_op (ev_frames L (ev_var rfl) (fi.ex e14)) (ev_var (v := nV i) rfl) (rv_ixLN (sq_of (e14 _ _ hfa)) hxs)) (ev_c (v := nV 1)) (rv_ixTN (v := .ref c) (st_of (e14 _ _ htt)) rfl)) ea_nil)) (by simp)) fun tt H10 ntt e10 htt2 Q0 q0 => ⟨S2 S a pa, fa, st.film.frames, i, tt, ⟨fr.cells, n⟩, rfl, (fi.kn hk).ex (e14.trans e10), fi.fr.ex (e14.trans e10), ⟨((fi.kn hk).ex e14).ne ntt, c, htt2, hc.1, (e14.trans e10) _ _ hc.2⟩, by omega, q0⟩) fun p H5 e5 hf => ?_
        have e15 := e14.trans e5
        refine q_when (et_test (ev_op (ev_all (ev_var rfl) hf hlen) (ev_c (v := nV 1000)) rv_gtN)) (fun hb3 H6 e6 => ?_) (fun hb3 H6 e6 => ?_)
        · have h3 := of_decide_eq_true hb3
          rw [htk] at h3
          exact s_refuse k (e15.trans e6) hk fi (if_pos h3) ev_c
        · have h3 := of_decide_eq_false hb3
          rw [htk] at h3
          rw [if_neg (show ¬ Ie12.TICKS < _ from h3)] at k
          exact s_change (fr_ev (ev_var rfl) (hf.ex e6)) (ev_var rfl) (e15.trans e6) hk fi gs.few hlen k

/-! ### loop, turn, together, stretch -/
theorem ok_loop {f : Addr} {fd : FuncData} (T : Txt mg) (L : Cla K C) (m_change_goes_on : C8.Met P w K mg base 3 C "change_goes_on" (spGoesOn C) []) (F : C8.Def K mg "loop" s_loop f fd) (b : Binds K fd ["film", "given"] []) :
    C8.Cal P w K mg base 4 "loop" (spCall K C 1 fun l => .loop (l.getD 0 0)) [] := by
  refine C8.cal0 F b .nil sc_loop (fun vs H Q E h => ?_) (fun cdv A outer s H vs Q E hr h => ?_)
  · obtain ⟨S, a, pa, g, st, args, rfl, _⟩ := h; rfl
  · obtain ⟨S, a, pa, g, st, args, rfl, hk, ⟨dx, fa, qs, fi⟩, gs, hg, hl, k⟩ := h
    obtain ⟨n, rfl⟩ := len1 hl
    replace k : RetC C S a (if 2 < n then (st, [-3]) else Ie12.become st { st.film with loop := n }) H Q := k
    have n12 := gs.film.n12
    refine ⟨_, (pss_cons (ps_if (pt_cmpR op_gt (pe_ix ix_list (pv 1) pe_int (fun _ _ => rfl)) (C8.pe_gc rfl T.c_THERE_AND_BACK) (nomark _))
        (pss_one (ps_ret (pe_lst (pa_cons (C8.pe_gc rfl T.c_BAD_NUMBER) pa_nil))))
        pss_nil)
      (pss_one (ps_ret (C8.pe_mt m_change_goes_on hr (by decide) (pv 0) (pa_cons (pe_ix ix_list (pv 1) pe_int (fun _ _ => rfl)) pa_nil))))), ?_⟩
    have g0 : ∀ {H1}, Ex H H1 → Ev (tOp (rIxL K) (tVar 1) (tC (.int 0))) (start ["film", "given"] [V.ref a, .ref g]) H1 (nV n) := fun e => ev_op (ev_var rfl) (ev_c (v := nV 0)) (rv_ixLN (ex_l e hg) rfl)
    refine q_when (et_test (ev_op (g0 (Ex.refl H)) (ev_c (v := nV 2)) rv_gtN)) (fun hb H1 e1 => ?_) (fun hb H1 e1 => ?_)
    · exact s_refuse k e1 hk fi (if_pos (of_decide_eq_true hb)) ev_c
    · rw [if_neg (of_decide_eq_false hb)] at k
      refine ⟨_, rfl, a, dx, _, rfl, e1 _ _ fi.at_, fF_no_change_goes_on .., ?_⟩
      refine (g0 e1) H1 (Ex.refl H1) _ fun H2 e2 => ?_
      have e12 := e1.trans e2
      exact ⟨S, a, pa, st, n, rfl, hk.ex e12, ⟨dx, fa, qs, fi.ex e12⟩, gs.few, by omega, k.toB e12 fi.na fi.npa⟩
theorem ok_turn {f : Addr} {fd : FuncData} (T : Txt mg) (L : Cla K C) (m_change_frames : C8.Met P w K mg base 3 C "change_frames" (spChange C) []) (F : C8.Def K mg "turn" s_turn f fd) (b : Binds K fd ["film", "given"] []) :
    C8.Cal P w K mg base 4 "turn" (spCall K C 0 fun _ => .turn) [] := by
  refine C8.cal0 F b .nil sc_turn (fun vs H Q E h => ?_) (fun cdv A outer s H vs Q E hr h => ?_)
  · obtain ⟨S, a, pa, g, st, args, rfl, _⟩ := h; rfl
  · obtain ⟨S, a, pa, g, st, args, rfl, hk, ⟨dx, fa, qs, fi⟩, gs, hg, hl, k⟩ := h
    have n12 := gs.film.n12
    refine ⟨_, (pss_one (ps_ret (C8.pe_mt m_change_frames hr (by decide) (pv 0) (pa_cons (pe_lstRev rfl rfl T.b_list rfl T.b_reversed (pe_fld (pv 0) rfl)) pa_nil)))), ?_⟩
    obtain ⟨ps, e, na, hfa, hf⟩ := id fi.fr
    have hF : EvFr (S2 S a pa) (tLstRev K (tFld K (tVar 0) "frames")) (start ["film", "given"] [V.ref a, .ref g]) H st.film.frames.reverse := fun H1 e1 Q q => by
      have a0 : Ev (tFld K (tVar 0) "frames") (start ["film", "given"] [V.ref a, .ref g]) H1 (.ref fa) := ev_frames L (ev_var rfl) (fi.ex e1)
      refine a0 H1 (Ex.refl H1) _ fun H2 e2 => ⟨fa, _, rfl, sq_of ((e1.trans e2) _ _ hfa), fun p np => ?_⟩
      refine q p _ (e2.trans (Ex.new np)) ⟨ps.reverse, by rw [List.map_reverse, e], ((fi.kn hk).ex (e1.trans e2)).ne np, by rw [upd_same, List.map_reverse], fun z hz => ?_⟩
      exact (hf z (List.mem_reverse.mp hz)).go (.ex ((e1.trans e2).trans (Ex.new np)))
    exact s_change hF (ev_var rfl) (Ex.refl H) hk fi gs.few (by rw [List.length_reverse]; omega) k
theorem ok_together {f : Addr} {fd : FuncData} (T : Txt mg) (L : Cla K C) (c_put_together : C8.Cal P w K mg base 1 "put_together" spTogether []) (m_change_frames : C8.Met P w K mg base 3 C "change_frames" (spChange C) []) (F : C8.Def K mg "together" s_together f fd) (b : Binds K fd ["film", "given"] []) :
    C8.Cal P w K mg base 4 "together" (spCall K C 0 fun _ => .together) [] := by
  refine C8.cal0 F b .nil sc_together (fun vs H Q E h => ?_) (fun cdv A outer s H vs Q E hr h => ?_)
  · obtain ⟨S, a, pa, g, st, args, rfl, _⟩ := h; rfl
  · obtain ⟨S, a, pa, g, st, args, rfl, hk, ⟨dx, fa, qs, fi⟩, gs, hg, hl, k⟩ := h
    have n12 := gs.film.n12
    have tl := together_len st.film.frames
    refine ⟨_, (pss_one (ps_ret (C8.pe_mt m_change_frames hr (by decide) (pv 0) (pa_cons (C8.pe_c c_put_together hr (by decide) rfl (pa_cons (pe_fld (pv 0) rfl) pa_nil)) pa_nil)))), ?_⟩
    exact s_change (fr_call (ea_cons (ev_frames L (ev_var rfl) fi) ea_nil) fun H1 e1 Q q => ⟨_, fa, _, rfl, (fi.kn hk).ex e1, fi.fr.ex e1, by omega, q⟩) (ev_var rfl) (Ex.refl H) hk fi gs.few (by omega) k
theorem ok_stretch {f : Addr} {fd : FuncData} (T : Txt mg) (L : Cla K C) (c_cut_out : C8.Cal P w K mg base 1 "cut_out" spCut []) (c_all_ticks : C8.Cal P w K mg base 1 "all_ticks" spAll []) (m_change_frames : C8.Met P w K mg base 3 C "change_frames" (spChange C) []) (F : C8.Def K mg "stretch" s_stretch f fd) (b : Binds K fd ["film", "given"] []) :
    C8.Cal P w K mg base 4 "stretch" (spCall K C 2 fun l => .stretch (l.getD 0 0) (l.getD 1 0)) [] := by
  refine C8.cal0 F b .nil sc_stretch (fun vs H Q E h => ?_) (fun cdv A outer s H vs Q E hr h => ?_)
  · obtain ⟨S, a, pa, g, st, args, rfl, _⟩ := h; rfl
  · obtain ⟨S, a, pa, g, st, args, rfl, hk, ⟨dx, fa, qs, fi⟩, gs, hg, hl, k⟩ := h
    obtain ⟨m, n, rfl⟩ := len2 hl
    have ecut : Ie12.stretch st.film.frames m n = cut m (m + n) 0 st.film.frames := by
      have := stretch_cut st.film.frames m n 0
      rw [Nat.zero_add] at this
      exact this
    replace k : RetC C S a (if n < 1 ∨ st.film.long < m + n then (st, [-3]) else Ie12.become st { st.film with frames := Ie12.stretch st.film.frames m n }) H Q := k
    rw [ecut, long_eq] at k
    have n12 := gs.film.n12
    have cl := cut_len (a := m) (e := m + n) st.film.frames 0
    refine ⟨_, (pss_cons (ps_set (i := 2) sc_stretch.nd rfl (.inl rfl) (pe_ix ix_list (pv 1) pe_int (fun _ _ => rfl)))
      (pss_cons (ps_set (i := 3) sc_stretch.nd rfl (.inl rfl) (pe_ix ix_list (pv 1) pe_int (fun _ _ => rfl)))
      (pss_cons (ps_if (PW.pt (pw_or (pt_cmpR op_eq (pv 3) pe_int (nomark _)) (pw_or1 (pt_cmpR op_gt (pe_op op_add (pv 2) (pv 3)) (C8.pe_c c_all_ticks hr (by decide) rfl (pa_cons (pe_fld (pv 0) rfl) pa_nil)) (nomark _)))))
        (pss_one (ps_ret (pe_lst (pa_cons (C8.pe_gc rfl T.c_BAD_NUMBER) pa_nil))))
        pss_nil)
      (pss_one (ps_ret (C8.pe_mt m_change_frames hr (by decide) (pv 0) (pa_cons (C8.pe_c c_cut_out hr (by decide) rfl (pa_cons (pe_fld (pv 0) rfl) (pa_cons (pv 2) (pa_cons (pv 3) pa_nil)))) pa_nil))))))), ?_⟩
    refine q_asg (v := nV m) (ev_op (ev_var rfl) (ev_c (v := nV 0)) (rv_ixLN hg rfl)) fun H1 e1 => ?_
    refine q_asg (v := nV n) (ev_op (ev_var rfl) (ev_c (v := nV 1)) (rv_ixLN (ex_l e1 hg) rfl)) fun H2 e2 => ?_
    have e12 := e1.trans e2
    refine q_when (et_or (et_test (ev_op (ev_var (v := nV n) rfl) (ev_c (v := nV 0)) rv_eqN)) fun _ => et_test (ev_op (ev_op (ev_var (v := nV m) rfl) (ev_var (v := nV n) rfl) rv_addN) (ev_all (ev_frames L (ev_var rfl) (fi.ex e12)) (fi.fr.ex e12) (by omega)) rv_gtN)) (fun hb H3 e3 => ?_) (fun hb H3 e3 => ?_)
    · refine s_refuse k (e12.trans e3) hk fi (if_pos ?_) ev_c
      rw [Bool.or_eq_true, decide_eq_true_eq, decide_eq_true_eq] at hb
      omega
    · rw [Bool.or_eq_false_iff, decide_eq_false_iff_not, decide_eq_false_iff_not] at hb
      rw [if_neg (by omega)] at k
      have e13 := e12.trans e3
      exact s_change (fr_call (ea_cons (ev_frames L (ev_var rfl) (fi.ex e13)) (ea_cons (ev_var (v := nV m) rfl) (ea_cons (ev_var (v := nV n) rfl) ea_nil))) fun H4 e4 Q q => ⟨_, fa, _, m, n, rfl, (fi.kn hk).ex (e13.trans e4), fi.fr.ex (e13.trans e4), by omega, q⟩) (ev_var rfl) e13 hk fi gs.few (by omega) k
end
end FF

set_option Elab.async false
set_option linter.all false
set_option maxRecDepth 100000
set_option maxHeartbeats 2000000
namespace FF
open PySem PySem.Spec PyProof.Rows L2 Evl
section
variable {K : PySem.W.Frag} {σ : L2.St} {H H1 : Hp} {ta te : TE} {S : Addr → Prop} {D : Ends} {C a pa dx fa : Addr} {qs : List (Addr × Ie12.Film)} {st : Ie12.St}
/-- return .. of a call that changes nothing -/
theorem s_tell {ns : List Nat} {r : Ie12.St × List Int} (k : RetC C S a r H D.rt) (e : Ex H H1) (hk : Kn S H) (fi : FilmIn C S H a pa dx fa qs st) (hr : r = (st, Ie12.ints ns)) (h : EvL te σ H1 (ns.map nV)) : tRet te D σ H1 := by
  subst hr
  refine s_retL h fun p H2 np e2 h2 => k p pa H2 (hk.ne (fresh_back e np)) (fun b o _ hb => (e.trans e2) b o hb) ⟨dx, fa, qs, fi.ex (e.trans e2)⟩ ?_
  rw [h2, ← iv_map]
  rfl
/-- film.place_at(t) -/
theorem eu_at {t : Nat} {E : XK} (hv : Ev ta σ H1 (.ref a)) (ht : Ev te σ H1 (nV t)) (e : Ex H H1) (fi : FilmIn C S H a pa dx fa qs st) (gs : GoodS st) : EvU (tMeth C "place_at" (spAt C) [] E ta (tCons te tNil)) σ H1 [nV (st.film.place t).1, nV (st.film.place t).2] :=
  eu_meth hv (e _ _ fi.at_) (fF_no_place_at ..) (ea_cons ht ea_nil) fun H2 e2 Q q _ => ⟨S, a, pa, st, t, rfl, ⟨dx, fa, qs, fi.ex (e.trans e2)⟩, gs.film, q⟩
end
theorem frame_of {f : Ie12.Film} {i : Nat} {x : Ie12.Frame} (h : f.frames[i]? = some x) : f.frame i = x := by
  unfold Ie12.Film.frame
  rw [List.getD_eq_getElem?_getD, h]
  rfl
theorem place_ok {f : Ie12.Film} (g : GoodF f) (t : Nat) : ∃ x, f.frames[(f.place t).1]? = some x ∧ (f.place t).2 < x.ticks := by
  have h : f.home t < tks f.frames := by
    rw [home_eq t g]
    exact ownT_lt g.long1
  obtain ⟨j, x, h1, h2, h3⟩ := placeIn_ok f.frames 0 (f.home t) h
  refine ⟨x, ?_, h3⟩
  have e : (f.place t).1 = j := by
    show (Ie12.placeIn f.frames 0 (f.home t)).1 = j
    rw [h1, Nat.zero_add]
  rw [e]
  exact h2
theorem tick_le {fs : List Ie12.Frame} {i : Nat} {x : Ie12.Frame} (h : fs[i]? = some x) : x.ticks ≤ tks fs := by
  have := tks_set (y := ⟨[], 0⟩) h
  dsimp only at this
  omega
section
variable {P : Program} {w : World} {K : PySem.W.Frag} {mg : Str → Option Value} {base : Heap} {C : Addr}
/-! ### bring -/
theorem ok_bring {f : Addr} {fd : FuncData} (T : Txt mg) (L : Cla K C) (c_brought : C8.Cal P w K mg base 2 "brought" spBrought []) (m_change_frames : C8.Met P w K mg base 3 C "change_frames" (spChange C) []) (F : C8.Def K mg "bring" s_bring f fd) (b : Binds K fd ["film", "given"] []) :
    C8.Cal P w K mg base 4 "bring" (spCall K C 1 fun l => .bring (l.getD 0 0)) [] := by
  refine C8.cal0 F b .nil sc_bring (fun vs H Q E h => ?_) (fun cdv A outer s H vs Q E hr h => ?_)
  · obtain ⟨S, a, pa, g, st, args, rfl, _⟩ := h; rfl
  · obtain ⟨S, a, pa, g, st, args, rfl, hk, ⟨dx, fa, qs, fi⟩, gs, hg, hl, k⟩ := h
    obtain ⟨m, rfl⟩ := len1 hl
    replace k : RetC C S a (if m < 1 ∨ Ie12.TICKS < m then (st, [-3]) else (match Ie12.brought st.film m with
      | none => (st, [-6])
      | some l => Ie12.become st { st.film with frames := l })) H Q := k
    rw [brought_brl, long_eq] at k
    have n12 := gs.film.n12
    have hT : Ie12.TICKS = 1000 := rfl
    refine ⟨_, (pss_cons (ps_set (i := 2) sc_bring.nd rfl (.inl rfl) (pe_ix ix_list (pv 1) pe_int (fun _ _ => rfl)))
      (pss_cons (ps_if (pt_not (pt_chain op_le op_le pe_int (pv 2) (C8.pe_gc rfl T.c_MOST_TICKS)))
        (pss_one (ps_ret (pe_lst (pa_cons (C8.pe_gc rfl T.c_BAD_NUMBER) pa_nil))))
        pss_nil)
      (pss_cons (ps_set (i := 3) sc_bring.nd rfl (.inl rfl) (C8.pe_c c_brought hr (by decide) rfl (pa_cons (pe_fld (pv 0) rfl) (pa_cons (pv 2) pa_nil))))
      (pss_cons (ps_if (pt_val (pe_callB (cr_any rfl) (by rfl) T.b_any (by decide +kernel) (pa_cons (pe_lc (own := [("frame", 4)]) (g := gName 4) (tt := tYes) (te := (tOp rEq (tOp (rIxT K) (tVar 4) (tC (.int 0))) (tC (.int 0)))) rfl sc_bring.nd (pi_list (pv 3)) (blkOk_by (N := ["film", "given", "length", "frames", "frame"]) (sc := C8.fnScope s_bring) (by decide +kernel)) (fun _ _ _ _ _ => (pg_name (i := 4) sc_bring.nd rfl (.inl rfl))) (fun _ _ _ _ _ => pts_nil) (fun _ _ _ _ _ => (pe_cmpR op_eq (pe_ix ix_tup (pv 4) pe_int (fun _ _ => rfl)) pe_int (nomark _)))) pa_nil)))
        (pss_one (ps_ret (pe_lst (pa_cons (C8.pe_gc rfl T.c_BAD_TICKS) pa_nil))))
        pss_nil)
      (pss_one (ps_ret (C8.pe_mt m_change_frames hr (by decide) (pv 0) (pa_cons (pv 3) pa_nil)))))))), ?_⟩
    refine q_asg (v := nV m) (ev_op (ev_var rfl) (ev_c (v := nV 0)) (rv_ixLN hg rfl)) fun H1 e1 => ?_
    refine q_when (et_not (et_test (ev_chain (ev_c (v := nV 1)) (ev_var (v := nV m) rfl) rv_leN fun _ => ⟨ev_c (v := nV 1000), rv_leN⟩))) (fun hb H2 e2 => ?_) (fun hb H2 e2 => ?_)
    · rw [Bool.not_eq_true', Bool.and_eq_false_iff, decide_eq_false_iff_not, decide_eq_false_iff_not] at hb
      exact s_refuse k (e1.trans e2) hk fi (if_pos (by omega)) ev_c
    · rw [Bool.not_eq_false', Bool.and_eq_true, decide_eq_true_eq, decide_eq_true_eq] at hb
      rw [if_neg (by omega)] at k
      have e12 := e1.trans e2
      have hlen : (brl (tks st.film.frames) m st.film.frames 0 0).length ≤ 1000 := by rw [brl_len]; omega
      refine q_asgF (fr_call (S := S2 S a pa) (fs := brl (tks st.film.frames) m st.film.frames 0 0) (ea_cons (ev_frames L (ev_var rfl) (fi.ex e12)) (ea_cons (ev_var (v := nV m) rfl) ea_nil)) fun H3 e3 Q q => ⟨_, fa, _, m, rfl, (fi.kn hk).ex (e12.trans e3), fi.fr.ex (e12.trans e3), by omega, gs.film.long1, gs.film.lg, q⟩) fun p H3 e3 hf => ?_
      generalize brl (tks st.film.frames) m st.film.frames 0 0 = fs at *
      obtain ⟨ps, hps, _, hpl, hfo⟩ := id hf
      have e13 := e12.trans e3
      refine q_when (b := fs.any fun x => decide (x.ticks = 0)) (et_is (et_B (ev_any (bs := ps.map fun q => decide (q.2.ticks = 0)) (el_is (el_lcG ps rf (fun q => V.bl (decide (q.2.ticks = 0))) (fun _ => true) (ev_var rfl) (sq_of hpl) (by rw [← hps, List.length_map] at hlen; omega) (fun q hq H4 e4 => ?_)) (by rw [filter_true, List.map_map]; rfl)))) (by rw [← hps, List.any_map, List.any_map]; rfl)) (fun hb2 H4 e4 => ?_) (fun hb2 H4 e4 => ?_)
      · obtain ⟨_, c, h1, _⟩ := hfo q hq
        exact ⟨_, eg_name, rfl, et_yes, fun _ => ev_op (ev_op (ev_var (v := .ref q.1) rfl) (ev_c (v := nV 0)) (rv_ixTN (v := nV q.2.ticks) (st_of (e4 _ _ h1)) rfl)) (ev_c (v := nV 0)) rv_eqN⟩
      · rw [if_pos hb2] at k
        exact s_refuse k (e13.trans e4) hk fi rfl ev_c
      · rw [if_neg (by rw [hb2]; decide)] at k
        exact s_change (fr_ev (ev_var rfl) (hf.ex e4)) (ev_var rfl) (e13.trans e4) hk fi gs.few hlen k

/-! ### read -/
def spRead (K : PySem.W.Frag) (C : Addr) : Sp := fun vs H Q _ => ∃ (S : Addr → Prop) (a pa g : Addr) (st : Ie12.St) (wd ht : Nat) (r : List Nat), vs = [.ref a, .ref g] ∧ Kn S H ∧ FilmAt C S H a pa st ∧ GoodS st ∧ SqL K H g ((wd :: ht :: r.length :: r).map nV) ∧ r.length ≤ 30000 ∧ RetC C S a (Ie12.step st (.read wd ht r)) H Q
theorem ok_read {f : Addr} {fd : FuncData} (T : Txt mg) (L : Cla K C) (c_is_size : C8.Cal P w K mg base 1 "is_size" spIsSize []) (c_read_from : C8.Cal P w K mg base 2 "read_from" (spReadFrom K) []) (c_all_ticks : C8.Cal P w K mg base 1 "all_ticks" spAll []) (m_change_size : C8.Met P w K mg base 3 C "change_size" (spSize C) []) (F : C8.Def K mg "read" s_read f fd) (b : Binds K fd ["film", "given"] []) :
    C8.Cal P w K mg base 4 "read" (spRead K C) [] := by
  refine C8.cal0 F b .nil sc_read (fun vs H Q E h => ?_) (fun cdv A outer s H vs Q E hr h => ?_)
  · obtain ⟨S, a, pa, g, st, wd, ht, r, rfl, _⟩ := h; rfl
  · obtain ⟨S, a, pa, g, st, wd, ht, r, rfl, hk, ⟨dx, fa, qs, fi⟩, gs, hg, hz, k⟩ := h
    replace k : RetC C S a (if Ie12.sizeOk wd ht = false then (st, ([-1] : List Int)) else (match Ie12.changesOf wd ht (r.length + 1) r with
      | none => (st, [-3])
      | some c => if c.isEmpty = true ∨ Ie12.FRAMES < c.length ∨ Ie12.TICKS < Ie12.sum (c.map fun x => x.1) then (st, [-5]) else Ie12.become st ⟨wd, ht, Ie12.framesOf wd (Ie12.blank wd ht) c, st.film.loop⟩)) H Q := k
    refine ⟨_, (pss_cons (ps_set (i := 2) sc_read.nd rfl (.inl rfl) (pe_ix ix_list (pv 1) pe_int (fun _ _ => rfl)))
      (pss_cons (ps_set (i := 3) sc_read.nd rfl (.inl rfl) (pe_ix ix_list (pv 1) pe_int (fun _ _ => rfl)))
      (pss_cons (ps_if (pt_not (pt_val (C8.pe_c c_is_size hr (by decide) rfl (pa_cons (pv 2) (pa_cons (pv 3) pa_nil)))))
        (pss_one (ps_ret (pe_lst (pa_cons (C8.pe_gc rfl T.c_BAD_SIZE) pa_nil))))
        pss_nil)
      (pss_cons (ps_set (i := 4) sc_read.nd rfl (.inl rfl) (C8.pe_c c_read_from hr (by decide) rfl (pa_cons (pe_slice sl_list (pv 1) (po_some pe_int) po_none) (pa_cons (pv 2) (pa_cons (pv 3) pa_nil)))))
      (pss_cons (ps_if (pt_cmpR op_isN (pv 4) pe_non (nomark _))
        (pss_one (ps_ret (pe_lst (pa_cons (C8.pe_gc rfl T.c_BAD_NUMBER) pa_nil))))
        pss_nil)
      (pss_cons (ps_if (PW.pt (pw_or (pt_not (pt_chain op_le op_le pe_int (pe_callB call_len_seq (by rfl) T.b_len PySem.boot_len (pa_cons (pv 4) pa_nil)) (C8.pe_gc rfl T.c_MOST_FRAMES))) (pw_or1 (pt_cmpR op_gt (C8.pe_c c_all_ticks hr (by decide) rfl (pa_cons (pv 4) pa_nil)) (C8.pe_gc rfl T.c_MOST_TICKS) (nomark _)))))
        (pss_one (ps_ret (pe_lst (pa_cons (C8.pe_gc rfl T.c_BAD_FRAME_COUNT) pa_nil))))
        pss_nil)
      (pss_one (ps_ret (C8.pe_mt m_change_size hr (by decide) (pv 0) (pa_cons (pv 2) (pa_cons (pv 3) (pa_cons (pv 4) pa_nil)))))))))))), ?_⟩
    refine q_asg (v := nV wd) (ev_op (ev_var rfl) (ev_c (v := nV 0)) (rv_ixLN hg rfl)) fun H1 e1 => ?_
    refine q_asg (v := nV ht) (ev_op (ev_var rfl) (ev_c (v := nV 1)) (rv_ixLN (ex_l e1 hg) rfl)) fun H2 e2 => ?_
    have e12 := e1.trans e2
    refine q_when (et_not (et_B (ev_call (ea_cons (ev_var (v := nV wd) rfl) (ea_cons (ev_var (v := nV ht) rfl) ea_nil)) fun H3 e3 Q q _ => ⟨wd, ht, rfl, q⟩))) (fun hb H3 e3 => ?_) (fun hb H3 e3 => ?_)
    · have hs : Ie12.sizeOk wd ht = false := by simpa using hb
      exact s_refuse k (e12.trans e3) hk fi (if_pos hs) ev_c
    · have hs : Ie12.sizeOk wd ht = true := by simpa using hb
      rw [if_neg (by rw [hs]; decide)] at k
      have hs2 := sizeOk_iff.mp hs
      have e13 := e12.trans e3
      -- frames = read_from(given[3:], width, height)
      have a1 : EvL (tSl (rSlL K) (tVar 1) (tPart (tC (.int 3))) tNoPart) [some (.ref a), some (.ref g), some (nV wd), some (nV ht), none] H3 (r.map nV) := el_is (el_sl (ev_var rfl) (eo_nat (i := 3) ev_c) eo_none (ex_l e13 hg)) (by rw [cut_from]; rfl)
      refine a1 H3 (Ex.refl H3) _ fun gl H4 ngl e4 h4 => ?_
      have e14 := e13.trans e4
      refine ⟨_, rfl, _, rfl, S2 S a pa, gl, r, wd, ht, rfl, (fi.kn hk).ex e14, sq_of h4, hz, hs2.1.1, hs2.1.2, hs2.2.1, hs2.2.2, ?_⟩
      cases hco : Ie12.changesOf wd ht (r.length + 1) r with
      | none =>
        rw [hco] at k
        intro H5 e5
        refine q_when (b := true) (et_is (et_test (ev_op (ev_var (v := .non) rfl) ev_c rv_isN)) rfl) (fun hb2 H6 e6 => ?_) (fun hb2 => Bool.noConfusion hb2)
        exact s_refuse k ((e14.trans e5).trans e6) hk fi rfl ev_c
      | some c =>
        rw [hco] at k
        dsimp only at k
        intro p H5 np e5 hf
        have e15 := e14.trans e5
        refine q_when (b := false) (et_is (et_test (ev_op (ev_var (v := .ref p) rfl) ev_c rv_isN)) rfl) (fun hb2 => Bool.noConfusion hb2) (fun _ H6 e6 => ?_)
        have e16 := e15.trans e6
        have hf6 := hf.ex e6
        have fl := framesOf_len wd c (Ie12.blank wd ht)
        have ft := framesOf_tks wd c (Ie12.blank wd ht)
        generalize Ie12.framesOf wd (Ie12.blank wd ht) c = fs at *
        obtain ⟨ps, hps, _, hpl, hfo⟩ := id hf6
        have hpn : (ps.map rf).length = fs.length := by rw [← hps, List.length_map, List.length_map]
        rw [sum_eq, ← ft, ← fl] at k
        have hF : Ie12.FRAMES = 12 := rfl
        have hT : Ie12.TICKS = 1000 := rfl
        have hce : c.isEmpty = true ↔ fs.length = 0 := by rw [fl, List.isEmpty_iff, List.length_eq_zero_iff]
        refine q_when (b := !(decide (1 ≤ fs.length) && decide (fs.length ≤ 12)) || decide (1000 < tks fs)) (et_or (et_not (et_test (ev_chain (ev_c (v := nV 1)) (ev_is (ev_lenL (ev_var rfl) (sq_of hpl)) (by rw [hpn])) rv_leN fun _ => ⟨ev_c (v := nV 12), rv_leN⟩))) fun hb3 => ?_) (fun hb3 H7 e7 => ?_) (fun hb3 H7 e7 => ?_)
        · rw [Bool.not_eq_false', Bool.and_eq_true, decide_eq_true_eq, decide_eq_true_eq] at hb3
          exact et_test (ev_op (ev_all (ev_var rfl) hf6 (by omega)) (ev_c (v := nV 1000)) rv_gtN)
        · rw [Bool.or_eq_true, Bool.not_eq_true', Bool.and_eq_false_iff, decide_eq_false_iff_not, decide_eq_false_iff_not, decide_eq_true_eq] at hb3
          exact s_refuse k (e16.trans e7) hk fi (if_pos (by rw [hce]; omega)) ev_c
        · rw [Bool.or_eq_false_iff, Bool.not_eq_false', Bool.and_eq_true, decide_eq_true_eq, decide_eq_true_eq, decide_eq_false_iff_not] at hb3
          rw [if_neg (by rw [hce]; omega)] at k
          have e17 := e16.trans e7
          exact ⟨_, rfl, a, dx, _, rfl, e17 _ _ fi.at_, fF_no_change_size .., _, rfl, _, rfl, _, rfl, S, a, pa, p, st, wd, ht, fs, rfl, hk.ex e17, ⟨dx, fa, qs, fi.ex e17⟩, gs.few, hf6.ex e7, by omega, k.toB e17 fi.na fi.npa⟩

/-! ### undo -/
theorem ok_undo {f : Addr} {fd : FuncData} (T : Txt mg) (L : Cla K C) (m_go_back : C8.Met P w K mg base 3 C "go_back" (spBack C) []) (F : C8.Def K mg "undo" s_undo f fd) (b : Binds K fd ["film", "given"] []) :
    C8.Cal P w K mg base 4 "undo" (spCall K C 0 fun _ => .undo) [] := by
  refine C8.cal0 F b .nil sc_undo (fun vs H Q E h => ?_) (fun cdv A outer s H vs Q E hr h => ?_)
  · obtain ⟨S, a, pa, g, st, args, rfl, _⟩ := h; rfl
  · obtain ⟨S, a, pa, g, st, args, rfl, hk, ⟨dx, fa, qs, fi⟩, gs, hg, hl, k⟩ := h
    replace k : RetC C S a (match st.old with
      | [] => (st, ([-4] : List Int))
      | f :: l => ((⟨f, l⟩ : Ie12.St), Ie12.ints [f.frames.length, f.long])) H Q := k
    have hqs : (qs.map rf).length = st.old.length := by
      have := congrArg List.length fi.eq
      rw [List.length_map, List.length_reverse] at this
      rw [List.length_map]; exact this
    refine ⟨_, (pss_cons (ps_if (pt_cmpR op_eq (pe_callB call_len_seq (by rfl) T.b_len PySem.boot_len (pa_cons (pe_fld (pv 0) rfl) pa_nil)) pe_int (nomark _))
        (pss_one (ps_ret (pe_lst (pa_cons (C8.pe_gc rfl T.c_NOTHING_TO_UNDO) pa_nil))))
        pss_nil)
      (pss_one (ps_ret (C8.pe_mt0 m_go_back hr (by decide) (pv 0))))), ?_⟩
    refine q_when (et_test (ev_op (ev_is (ev_lenL (ev_fld (ev_var rfl) fi.at_ L.cl L.n_past (fF_past ..)) (sq_of fi.past)) (by rw [hqs])) (ev_c (v := nV 0)) rv_eqN)) (fun hb H1 e1 => ?_) (fun hb H1 e1 => ?_)
    · have h0 : st.old = [] := List.eq_nil_of_length_eq_zero (of_decide_eq_true hb)
      rw [h0] at k
      exact s_refuse k e1 hk fi rfl ev_c
    · have h0 := of_decide_eq_false hb
      cases ho : st.old with
      | nil => rw [ho] at h0; exact absurd rfl h0
      | cons fm old =>
        rw [ho] at k
        have gold := gs.old fm (by rw [ho]; exact List.mem_cons_self ..)
        have n12 := gold.n12
        refine ⟨_, rfl, a, dx, _, rfl, e1 _ _ fi.at_, fF_no_go_back .., S, a, pa, st, fm, old, rfl, hk.ex e1, ⟨dx, fa, qs, fi.ex e1⟩, ho, by omega, fun p H2 nS hB hf hp => ?_⟩
        refine k p pa H2 nS (fun b o sb hb => hB b o (e1 _ _ hb) (fun z => fi.na (z ▸ sb)) (fun z => fi.npa (z ▸ sb))) hf ?_
        rw [hp]
        show _ = some (HO.lst ((Ie12.ints [fm.frames.length, fm.long]).map V.int))
        rw [long_eq]
        rfl

/-! ### shown, between, place -/
theorem ok_shown {f : Addr} {fd : FuncData} (T : Txt mg) (L : Cla K C) (m_place_at : C8.Met P w K mg base 2 C "place_at" (spAt C) []) (F : C8.Def K mg "shown" s_shown f fd) (b : Binds K fd ["film", "given"] []) :
    C8.Cal P w K mg base 4 "shown" (spCall K C 1 fun l => .shown (l.getD 0 0)) [] := by
  refine C8.cal0 F b .nil sc_shown (fun vs H Q E h => ?_) (fun cdv A outer s H vs Q E hr h => ?_)
  · obtain ⟨S, a, pa, g, st, args, rfl, _⟩ := h; rfl
  · obtain ⟨S, a, pa, g, st, args, rfl, hk, ⟨dx, fa, qs, fi⟩, gs, hg, hl, k⟩ := h
    obtain ⟨t, rfl⟩ := len1 hl
    replace k : RetC C S a (st, Ie12.ints (st.film.shown t)) H Q := k
    refine ⟨_, (pss_cons (ps_set (i := 2) sc_shown.nd rfl (.inl rfl) (pe_ix ix_tup (C8.pe_mt m_place_at hr (by decide) (pv 0) (pa_cons (pe_ix ix_list (pv 1) pe_int (fun _ _ => rfl)) pa_nil)) pe_int (fun _ _ => rfl)))
      (pss_one (ps_ret (pe_callTy call_list_of (by rfl) T.b_list (by decide +kernel) (pa_cons (pe_ix ix_tup (pe_ix ix_list (pe_fld (pv 0) rfl) (pv 2) (fun _ _ => rfl)) pe_int (fun _ _ => rfl)) pa_nil))))), ?_⟩
    obtain ⟨x, hx, _⟩ := place_ok gs.film t
    have hsh : st.film.shown t = x.cells := by
      show (st.film.frame (st.film.place t).1).cells = _
      rw [frame_of hx]
    rw [hsh] at k
    refine q_asg (v := nV (st.film.place t).1) (ev_ixU (eu_at (ev_var rfl) (ev_op (ev_var rfl) (ev_c (v := nV 0)) (rv_ixLN hg rfl)) (Ex.refl H) fi gs) rfl) fun H1 e1 => ?_
    obtain ⟨xs, tp, c, hfa, hxs, _, htt, hc⟩ := (fi.fr.ex e1).at hx
    exact s_tell k e1 hk fi rfl (el_list (ev_op (ev_op (ev_frames L (ev_var rfl) (fi.ex e1)) (ev_var (v := nV (st.film.place t).1) rfl) (rv_ixLN (sq_of hfa) hxs)) (ev_c (v := nV 1)) (rv_ixTN (v := .ref c) (st_of htt) rfl)) (sq_of hc.2))
theorem ok_between {f : Addr} {fd : FuncData} (T : Txt mg) (L : Cla K C) (c_frame_behind : C8.Cal P w K mg base 1 "frame_behind" spBehind []) (c_mixed : C8.Cal P w K mg base 2 "mixed" spMixed []) (m_place_at : C8.Met P w K mg base 2 C "place_at" (spAt C) []) (F : C8.Def K mg "between" s_between f fd) (b : Binds K fd ["film", "given"] []) :
    C8.Cal P w K mg base 4 "between" (spCall K C 1 fun l => .between (l.getD 0 0)) [] := by
  refine C8.cal0 F b .nil sc_between (fun vs H Q E h => ?_) (fun cdv A outer s H vs Q E hr h => ?_)
  · obtain ⟨S, a, pa, g, st, args, rfl, _⟩ := h; rfl
  · obtain ⟨S, a, pa, g, st, args, rfl, hk, ⟨dx, fa, qs, fi⟩, gs, hg, hl, k⟩ := h
    obtain ⟨t, rfl⟩ := len1 hl
    replace k : RetC C S a (st, Ie12.ints (st.film.between t)) H Q := k
    refine ⟨_, (pss_cons (ps_set (i := 2) sc_between.nd rfl (.inl rfl) (C8.pe_mt m_place_at hr (by decide) (pv 0) (pa_cons (pe_ix ix_list (pv 1) pe_int (fun _ _ => rfl)) pa_nil)))
      (pss_cons (ps_set (i := 3) sc_between.nd rfl (.inl rfl) (C8.pe_c c_frame_behind hr (by decide) rfl (pa_cons (pe_fld (pv 0) rfl) (pa_cons (pe_ix ix_tup (pv 2) pe_int (fun _ _ => rfl)) (pa_cons (pe_fld (pv 0) rfl) pa_nil)))))
      (pss_one (ps_ret (C8.pe_c c_mixed hr (by decide) rfl (pa_cons (pe_ix ix_list (pe_fld (pv 0) rfl) (pe_ix ix_tup (pv 2) pe_int (fun _ _ => rfl)) (fun _ _ => rfl)) (pa_cons (pe_ix ix_tup (pe_ix ix_list (pe_fld (pv 0) rfl) (pv 3) (fun _ _ => rfl)) pe_int (fun _ _ => rfl)) (pa_cons (pe_ix ix_tup (pv 2) pe_int (fun _ _ => rfl)) pa_nil)))))))), ?_⟩
    obtain ⟨x, hx, hxt⟩ := place_ok gs.film t
    have hbl : st.film.behind (st.film.place t).1 < st.film.frames.length := by
      have h1 := (List.getElem?_eq_some_iff.mp hx).1
      unfold Ie12.Film.behind
      split
      · omega
      · split <;> omega
    obtain ⟨y, hy⟩ : ∃ y, st.film.frames[st.film.behind (st.film.place t).1]? = some y := ⟨_, List.getElem?_eq_getElem hbl⟩
    have hbt : st.film.between t = mixN x y.cells (st.film.place t).2 := by
      show ((st.film.frame (st.film.place t).1).cells.zip (st.film.frame (st.film.behind (st.film.place t).1)).cells).map (fun q => Ie12.near (((st.film.frame (st.film.place t).1).ticks - (st.film.place t).2) * q.1 + (st.film.place t).2 * q.2) (st.film.frame (st.film.place t).1).ticks) = _
      rw [frame_of hx, frame_of hy]
      rfl
    rw [hbt] at k
    have gx := gs.film.fr x (List.mem_of_getElem? hx)
    have gy := gs.film.fr y (List.mem_of_getElem? hy)
    have area := gs.film.area
    have hxl := tick_le hx
    have lg := gs.film.lg
    refine q_asgU (eu_at (ev_var rfl) (ev_op (ev_var rfl) (ev_c (v := nV 0)) (rv_ixLN hg rfl)) (Ex.refl H) fi gs) fun p H1 np e1 h1 => ?_
    refine q_asg (v := nV (st.film.behind (st.film.place t).1)) (ev_call (ea_cons (ev_frames L (ev_var rfl) (fi.ex e1)) (ea_cons (ev_op (ev_var (v := .ref p) rfl) (ev_c (v := nV 0)) (rv_ixTN (v := nV (st.film.place t).1) (st_of h1) rfl)) (ea_cons (ev_fld (ev_var rfl) (fi.ex e1).at_ L.cl L.n_goes_on (fF_goes_on ..)) ea_nil))) fun H2 e2 Q q _ => ⟨_, fa, st.film.frames, (st.film.place t).1, st.film.loop, rfl, fi.fr.ex (e1.trans e2), q⟩) fun H2 e2 => ?_
    have e12 := e1.trans e2
    obtain ⟨xs, tp, c, hfa, hxs, ntp, htt, hc⟩ := (fi.fr.ex e12).at hx
    obtain ⟨xs2, tp2, c2, hfa2, hxs2, _, htt2, hc2⟩ := (fi.fr.ex e12).at hy
    refine s_tell k e12 hk fi rfl (el_call (ea_cons (ev_op (ev_frames L (ev_var rfl) (fi.ex e12)) (ev_op (ev_var (v := .ref p) rfl) (ev_c (v := nV 0)) (rv_ixTN (v := nV (st.film.place t).1) (st_of (e2 _ _ h1)) rfl)) (rv_ixLN (v := .ref tp) (sq_of hfa) hxs)) (ea_cons (ev_op (ev_op (ev_frames L (ev_var rfl) (fi.ex e12)) (ev_var (v := nV (st.film.behind (st.film.place t).1)) rfl) (rv_ixLN (sq_of hfa2) hxs2)) (ev_c (v := nV 1)) (rv_ixTN (v := .ref c2) (st_of htt2) rfl)) (ea_cons (ev_op (ev_var (v := .ref p) rfl) (ev_c (v := nV 1)) (rv_ixTN (v := nV (st.film.place t).2) (st_of (e2 _ _ h1)) rfl)) ea_nil))) fun H3 e3 Q q _ => ⟨S2 S a pa, tp, c2, x, y.cells, (st.film.place t).2, rfl, ⟨ntp, c, e3 _ _ htt, hc.go (.ex e3)⟩, e3 _ _ hc2.2, ?_, ?_, hxt, by omega, q⟩)
    · rw [gy.len, gx.len]
    · rw [gy.len]; omega
theorem ok_place {f : Addr} {fd : FuncData} (T : Txt mg) (L : Cla K C) (m_place_at : C8.Met P w K mg base 2 C "place_at" (spAt C) []) (F : C8.Def K mg "place" s_place f fd) (b : Binds K fd ["film", "given"] []) :
    C8.Cal P w K mg base 4 "place" (spCall K C 1 fun l => .place (l.getD 0 0)) [] := by
  refine C8.cal0 F b .nil sc_place (fun vs H Q E h => ?_) (fun cdv A outer s H vs Q E hr h => ?_)
  · obtain ⟨S, a, pa, g, st, args, rfl, _⟩ := h; rfl
  · obtain ⟨S, a, pa, g, st, args, rfl, hk, ⟨dx, fa, qs, fi⟩, gs, hg, hl, k⟩ := h
    obtain ⟨t, rfl⟩ := len1 hl
    replace k : RetC C S a (st, Ie12.ints [(st.film.place t).1, (st.film.place t).2]) H Q := k
    refine ⟨_, (pss_one (ps_ret (pe_callTy call_list_of (by rfl) T.b_list (by decide +kernel) (pa_cons (C8.pe_mt m_place_at hr (by decide) (pv 0) (pa_cons (pe_ix ix_list (pv 1) pe_int (fun _ _ => rfl)) pa_nil)) pa_nil)))), ?_⟩
    exact s_tell k (Ex.refl H) hk fi rfl (el_listU (eu_at (ev_var rfl) (ev_op (ev_var rfl) (ev_c (v := nV 0)) (rv_ixLN hg rfl)) (Ex.refl H) fi gs))

/-! ### told, list -/
theorem ok_told {f : Addr} {fd : FuncData} (T : Txt mg) (L : Cla K C) (c_told_of : C8.Cal P w K mg base 3 "told_of" spToldOf []) (F : C8.Def K mg "told" s_told f fd) (b : Binds K fd ["film", "given"] []) :
    C8.Cal P w K mg base 4 "told" (spCall K C 0 fun _ => .told) [] := by
  refine C8.cal0 F b .nil sc_told (fun vs H Q E h => ?_) (fun cdv A outer s H vs Q E hr h => ?_)
  · obtain ⟨S, a, pa, g, st, args, rfl, _⟩ := h; rfl
  · obtain ⟨S, a, pa, g, st, args, rfl, hk, ⟨dx, fa, qs, fi⟩, gs, hg, hl, k⟩ := h
    replace k : RetC C S a (st, Ie12.ints ((Ie12.changes st.film.w st.film.h (Ie12.blank st.film.w st.film.h) st.film.frames).flatMap toldN)) H Q := k
    have n12 := gs.film.n12
    refine ⟨_, (pss_one (ps_ret (C8.pe_c c_told_of hr (by decide) rfl (pa_cons (pe_fld (pv 0) rfl) (pa_cons (pe_fld (pv 0) rfl) pa_nil))))), ?_⟩
    exact s_tell k (Ex.refl H) hk fi rfl (el_call (ea_cons (ev_frames L (ev_var rfl) fi) (ea_cons (ev_fld (ev_var rfl) fi.at_ L.cl L.n_width (fF_width ..)) ea_nil)) fun H1 e1 Q q _ => ⟨_, fa, _, _, st.film.h, rfl, fi.fr.ex e1, by omega, gs.film.n1, fun x hx => (gs.film.fr x hx).len, gs.film.w1, gs.film.w6, gs.film.h6, q⟩)
theorem ok_listed {f : Addr} {fd : FuncData} (T : Txt mg) (L : Cla K C) (F : C8.Def K mg "listed" s_listed f fd) (b : Binds K fd ["film", "given"] []) :
    C8.Cal P w K mg base 4 "listed" (spCall K C 0 fun _ => .list) [] := by
  refine C8.cal0 F b .nil sc_listed (fun vs H Q E h => ?_) (fun cdv A outer s H vs Q E hr h => ?_)
  · obtain ⟨S, a, pa, g, st, args, rfl, _⟩ := h; rfl
  · obtain ⟨S, a, pa, g, st, args, rfl, hk, ⟨dx, fa, qs, fi⟩, gs, hg, hl, k⟩ := h
    replace k : RetC C S a (st, Ie12.ints ([st.film.w, st.film.h, st.film.loop, st.film.frames.length] ++ st.film.frames.map fun f => f.ticks)) H Q := k
    have n12 := gs.film.n12
    refine ⟨_, (pss_one (ps_ret (pe_op op_cat (pe_lst (pa_cons (pe_fld (pv 0) rfl) (pa_cons (pe_fld (pv 0) rfl) (pa_cons (pe_fld (pv 0) rfl) (pa_cons (pe_callB call_len_seq (by rfl) T.b_len PySem.boot_len (pa_cons (pe_fld (pv 0) rfl) pa_nil)) pa_nil))))) (pe_lc (own := [("frame", 2)]) (g := gName 2) (tt := tYes) (te := (tOp (rIxT K) (tVar 2) (tC (.int 0)))) rfl sc_listed.nd (pi_list (pe_fld (pv 0) rfl)) (blkOk_by (N := ["film", "given", "frame"]) (sc := C8.fnScope s_listed) (by decide +kernel)) (fun _ _ _ _ _ => (pg_name (i := 2) sc_listed.nd rfl (.inl rfl))) (fun _ _ _ _ _ => pts_nil) (fun _ _ _ _ _ => (pe_ix ix_tup (pv 2) pe_int (fun _ _ => rfl))))))), ?_⟩
    obtain ⟨ps, hps, _, hpl, hfo⟩ := id fi.fr
    have hpn : ps.length = st.film.frames.length := by rw [← hps, List.length_map]
    refine s_tell k (Ex.refl H) hk fi rfl (el_is (el_cat (el_lst (ea_cons (ev_fld (ev_var rfl) fi.at_ L.cl L.n_width (fF_width ..)) (ea_cons (ev_fld (ev_var rfl) fi.at_ L.cl L.n_height (fF_height ..)) (ea_cons (ev_fld (ev_var rfl) fi.at_ L.cl L.n_goes_on (fF_goes_on ..)) (ea_cons (ev_count L (ev_var rfl) fi) ea_nil)))) (by simp)) (el_lcG ps rf (fun q => nV q.2.ticks) (fun _ => true) (ev_frames L (ev_var rfl) fi) (sq_of hpl) (by omega) (fun q hq H1 e1 => ?_)) ?_) ?_)
    · obtain ⟨_, c, h1, _⟩ := hfo q hq
      exact ⟨_, eg_name, rfl, et_yes, fun _ => ev_op (ev_var (v := .ref q.1) rfl) (ev_c (v := nV 0)) (rv_ixTN (v := nV q.2.ticks) (st_of (e1 _ _ h1)) rfl)⟩
    · rw [filter_true, List.length_map]; simp; omega
    · rw [filter_true, List.map_append, ← hps, List.map_map, List.map_map, List.length_map]
      rw [hpn]
      rfl
end
end FF

set_option Elab.async false
set_option linter.all false
set_option maxRecDepth 100000
namespace FF
/-! ### the calls in one list -/
/-- a call from its number, its numbers, its row -/
def mk (p : Nat) (a r : List Nat) : Ie12.Call := match p with
  | 0 => .page (a.getD 0 0) (a.getD 1 0)
  | 1 => .put (a.getD 0 0)
  | 2 => .drop (a.getD 0 0)
  | 3 => .box (a.getD 0 0) (a.getD 1 0) (a.getD 2 0) (a.getD 3 0) (a.getD 4 0) (a.getD 5 0)
  | 4 => .ticks (a.getD 0 0) (a.getD 1 0)
  | 5 => .loop (a.getD 0 0)
  | 6 => .turn
  | 7 => .together
  | 8 => .stretch (a.getD 0 0) (a.getD 1 0)
  | 9 => .bring (a.getD 0 0)
  | 10 => .read (a.getD 0 0) (a.getD 1 0) r
  | 11 => .undo
  | 12 => .shown (a.getD 0 0)
  | 13 => .between (a.getD 0 0)
  | 14 => .place (a.getD 0 0)
  | 15 => .told
  | _ => .list
def arity (p : Nat) : Nat := match p with
  | 0 => 2 | 1 => 1 | 2 => 1 | 3 => 6 | 4 => 2 | 5 => 1 | 6 => 0 | 7 => 0 | 8 => 2 | 9 => 1 | 10 => 2 | 11 => 0 | 12 => 1 | 13 => 1 | 14 => 1 | _ => 0
def iL (l : List Nat) : List Int := l.map fun (n : Nat) => (n : Int)
/-- the rows that a call has behind its numbers -/
def tailOf (p : Nat) (r : List Nat) : List Int := if p = 10 then (r.length : Int) :: iL r else []

def Small (l : List Int) : Prop := ∀ z ∈ l, 0 ≤ z ∧ z ≤ 4294967295
theorem small_nat {l : List Int} (h : Small l) : ∃ a : List Nat, l = iL a := by
  refine ⟨l.map Int.toNat, ?_⟩
  unfold iL
  rw [List.map_map]
  refine Eq.symm (Eq.trans (List.map_congr_left fun z hz => ?_) (List.map_id l))
  have := (h z hz).1
  show ((z.toNat : Nat) : Int) = id z
  show ((z.toNat : Nat) : Int) = z
  omega
theorem shape_small {p : Int} {n k : Nat} (h : PyIe12.shape p = some (n, k)) : ∃ q : Nat, p = (q : Int) ∧ q ≤ 16 ∧ n = arity q ∧ k = if q = 10 then 1 else 0 := by
  by_cases e0 : p = 0
  · subst e0
    obtain ⟨h1, h2⟩ := Prod.mk.inj (Option.some.inj (show some (2, 0) = some (n, k) from h))
    exact ⟨0, rfl, by decide, h1.symm, h2.symm⟩
  by_cases e1 : p = 1
  · subst e1
    obtain ⟨h1, h2⟩ := Prod.mk.inj (Option.some.inj (show some (1, 0) = some (n, k) from h))
    exact ⟨1, rfl, by decide, h1.symm, h2.symm⟩
  by_cases e2 : p = 2
  · subst e2
    obtain ⟨h1, h2⟩ := Prod.mk.inj (Option.some.inj (show some (1, 0) = some (n, k) from h))
    exact ⟨2, rfl, by decide, h1.symm, h2.symm⟩
  by_cases e3 : p = 3
  · subst e3
    obtain ⟨h1, h2⟩ := Prod.mk.inj (Option.some.inj (show some (6, 0) = some (n, k) from h))
    exact ⟨3, rfl, by decide, h1.symm, h2.symm⟩
  by_cases e4 : p = 4
  · subst e4
    obtain ⟨h1, h2⟩ := Prod.mk.inj (Option.some.inj (show some (2, 0) = some (n, k) from h))
    exact ⟨4, rfl, by decide, h1.symm, h2.symm⟩
  by_cases e5 : p = 5
  · subst e5
    obtain ⟨h1, h2⟩ := Prod.mk.inj (Option.some.inj (show some (1, 0) = some (n, k) from h))
    exact ⟨5, rfl, by decide, h1.symm, h2.symm⟩
  by_cases e6 : p = 6
  · subst e6
    obtain ⟨h1, h2⟩ := Prod.mk.inj (Option.some.inj (show some (0, 0) = some (n, k) from h))
    exact ⟨6, rfl, by decide, h1.symm, h2.symm⟩
  by_cases e7 : p = 7
  · subst e7
    obtain ⟨h1, h2⟩ := Prod.mk.inj (Option.some.inj (show some (0, 0) = some (n, k) from h))
    exact ⟨7, rfl, by decide, h1.symm, h2.symm⟩
  by_cases e8 : p = 8
  · subst e8
    obtain ⟨h1, h2⟩ := Prod.mk.inj (Option.some.inj (show some (2, 0) = some (n, k) from h))
    exact ⟨8, rfl, by decide, h1.symm, h2.symm⟩
  by_cases e9 : p = 9
  · subst e9
    obtain ⟨h1, h2⟩ := Prod.mk.inj (Option.some.inj (show some (1, 0) = some (n, k) from h))
    exact ⟨9, rfl, by decide, h1.symm, h2.symm⟩
  by_cases e10 : p = 10
  · subst e10
    obtain ⟨h1, h2⟩ := Prod.mk.inj (Option.some.inj (show some (2, 1) = some (n, k) from h))
    exact ⟨10, rfl, by decide, h1.symm, h2.symm⟩
  by_cases e11 : p = 11
  · subst e11
    obtain ⟨h1, h2⟩ := Prod.mk.inj (Option.some.inj (show some (0, 0) = some (n, k) from h))
    exact ⟨11, rfl, by decide, h1.symm, h2.symm⟩
  by_cases e12 : p = 12
  · subst e12
    obtain ⟨h1, h2⟩ := Prod.mk.inj (Option.some.inj (show some (1, 0) = some (n, k) from h))
    exact ⟨12, rfl, by decide, h1.symm, h2.symm⟩
  by_cases e13 : p = 13
  · subst e13
    obtain ⟨h1, h2⟩ := Prod.mk.inj (Option.some.inj (show some (1, 0) = some (n, k) from h))
    exact ⟨13, rfl, by decide, h1.symm, h2.symm⟩
  by_cases e14 : p = 14
  · subst e14
    obtain ⟨h1, h2⟩ := Prod.mk.inj (Option.some.inj (show some (1, 0) = some (n, k) from h))
    exact ⟨14, rfl, by decide, h1.symm, h2.symm⟩
  by_cases e15 : p = 15
  · subst e15
    obtain ⟨h1, h2⟩ := Prod.mk.inj (Option.some.inj (show some (0, 0) = some (n, k) from h))
    exact ⟨15, rfl, by decide, h1.symm, h2.symm⟩
  by_cases e16 : p = 16
  · subst e16
    obtain ⟨h1, h2⟩ := Prod.mk.inj (Option.some.inj (show some (0, 0) = some (n, k) from h))
    exact ⟨16, rfl, by decide, h1.symm, h2.symm⟩
  unfold PyIe12.shape at h
  rw [if_neg e0, if_neg e1, if_neg e2, if_neg e3, if_neg e4, if_neg e5, if_neg e6, if_neg e7, if_neg e8, if_neg e9, if_neg e10, if_neg e11, if_neg e12, if_neg e13, if_neg e14, if_neg e15, if_neg e16] at h
  cases h

def stepN (s : Ie12.St) (c : List (List Int)) : Ie12.St × List Int := Ie12Neutral.step s (c.headD [])
theorem all_nat {a : List Nat} (h : ∀ n ∈ a, n ≤ 4294967295) : (iL a).all Ie12Neutral.nat = true := by
  rw [List.all_eq_true]
  intro z hz
  obtain ⟨n, hn, rfl⟩ := List.mem_map.mp hz
  have := h n hn
  unfold Ie12Neutral.nat
  rw [Bool.and_eq_true, decide_eq_true_eq, decide_eq_true_eq]
  constructor <;> omega
theorem toNat_iL (a : List Nat) : (iL a).map Int.toNat = a := by
  unfold iL
  rw [List.map_map]
  refine Eq.trans (List.map_congr_left fun z _ => ?_) (List.map_id a)
  rfl
theorem neutral_of {s : Ie12.St} {l : List Nat} {c : Ie12.Call} (h : ∀ n ∈ l, n ≤ 4294967295) (e : Ie12Neutral.callIn l = some c) : Ie12Neutral.step s (iL l) = Ie12.step s c := by
  unfold Ie12Neutral.step Ie12Neutral.callOf
  rw [all_nat h, if_neg (by decide), toNat_iL, e]
/-- one call as it is read: its number, its numbers, its row -/
theorem step_whole {s : Ie12.St} {q : Nat} {a r : List Nat} (hq : q ≤ 16) (ha : a.length = arity q) (h1 : ∀ n ∈ a, n ≤ 4294967295) (h2 : ∀ n ∈ r, n ≤ 4294967295) :
    stepN s (PyIe12.whole (((q : Int) :: iL a) :: if q = 10 then [iL r] else [])) = Ie12.step s (mk q a r) := by
  have z0 : ∀ {l : List Nat}, (∀ n ∈ l, n ≤ 4294967295) → ∀ {m : Nat}, m ≤ 16 → ∀ n ∈ m :: l, n ≤ 4294967295 := fun {l} h {m} hm n hn => by
    rcases List.mem_cons.mp hn with e | e
    · omega
    · exact h n e
  have e17 : q = 0 ∨ q = 1 ∨ q = 2 ∨ q = 3 ∨ q = 4 ∨ q = 5 ∨ q = 6 ∨ q = 7 ∨ q = 8 ∨ q = 9 ∨ q = 10 ∨ q = 11 ∨ q = 12 ∨ q = 13 ∨ q = 14 ∨ q = 15 ∨ q = 16 := by omega
  have g := z0 h1 hq
  rcases e17 with rfl | rfl | rfl | rfl | rfl | rfl | rfl | rfl | rfl | rfl | rfl | rfl | rfl | rfl | rfl | rfl | rfl
  · match a, ha, g with
    | [x, y], _, g => exact neutral_of (l := [0, x, y]) (c := .page x y) g rfl
  · match a, ha, g with
    | [x], _, g => exact neutral_of (l := [1, x]) (c := .put x) g rfl
  · match a, ha, g with
    | [x], _, g => exact neutral_of (l := [2, x]) (c := .drop x) g rfl
  · match a, ha, g with
    | [i, x, y, u, v, n], _, g => exact neutral_of (l := [3, i, x, y, u, v, n]) (c := .box i x y u v n) g rfl
  · match a, ha, g with
    | [x, y], _, g => exact neutral_of (l := [4, x, y]) (c := .ticks x y) g rfl
  · match a, ha, g with
    | [x], _, g => exact neutral_of (l := [5, x]) (c := .loop x) g rfl
  · match a, ha, g with
    | [], _, g => exact neutral_of (l := [6]) (c := .turn) g rfl
  · match a, ha, g with
    | [], _, g => exact neutral_of (l := [7]) (c := .together) g rfl
  · match a, ha, g with
    | [x, y], _, g => exact neutral_of (l := [8, x, y]) (c := .stretch x y) g rfl
  · match a, ha, g with
    | [x], _, g => exact neutral_of (l := [9, x]) (c := .bring x) g rfl
  · match a, ha, g with
    | [x, y], _, g =>
      refine neutral_of (l := 10 :: x :: y :: r) (c := .read x y r) (fun n hn => ?_) rfl
      rcases List.mem_cons.mp hn with e | e
      · omega
      · rcases List.mem_cons.mp e with e | e
        · exact h1 n (by simp [e])
        · rcases List.mem_cons.mp e with e | e
          · exact h1 n (by simp [e])
          · exact h2 n e
  · match a, ha, g with
    | [], _, g => exact neutral_of (l := [11]) (c := .undo) g rfl
  · match a, ha, g with
    | [x], _, g => exact neutral_of (l := [12, x]) (c := .shown x) g rfl
  · match a, ha, g with
    | [x], _, g => exact neutral_of (l := [13, x]) (c := .between x) g rfl
  · match a, ha, g with
    | [x], _, g => exact neutral_of (l := [14, x]) (c := .place x) g rfl
  · match a, ha, g with
    | [], _, g => exact neutral_of (l := [15]) (c := .told) g rfl
  · match a, ha, g with
    | [], _, g => exact neutral_of (l := [16]) (c := .list) g rfl

/-- what stands between two calls: the place, what was told, the film; rest: the calls that are left -/
structure Run (l : List Int) (rest : List (List (List Int))) (at_ : Nat) (told : List Int) (st : Ie12.St) : Prop where
  ok : ∀ c ∈ rest, PyFlat.okCall PyIe12.shape c
  here : l.drop at_ = PyFlat.put rest
  le : at_ ≤ l.length
  eq : PyIe12.answers l = told ++ PyFlat.told (PyFlat.played stepN st (rest.map PyIe12.whole))
  good : GoodS st
theorem run_start {l : List Int} (h : PyIe12.answers_asked l = true) : ∃ rest, Run l rest 0 [] Ie12.init ∧ (PyIe12.answers l).length ≤ 10000000 := by
  unfold PyIe12.answers_asked at h
  cases e : PyFlat.calls PyIe12.shape l.length l with
  | none => rw [e] at h; cases h
  | some raw =>
    rw [e] at h
    dsimp only at h
    have hs : (PyIe12.answers l).length ≤ 10000000 := by
      rw [Bool.and_eq_true] at h
      exact of_decide_eq_true h.2
    obtain ⟨h1, h2⟩ := PyFlat.put_calls _ _ _ e
    refine ⟨raw, ⟨h2, by rw [List.drop_zero]; exact h1, Nat.zero_le _, ?_, good_init⟩, hs⟩
    unfold PyIe12.answers PyIe12.calls
    rw [e]
    rfl
/-- the next call -/
theorem run_turn {l : List Int} {rest : List (List (List Int))} {at_ : Nat} {told : List Int} {st : Ie12.St} (hl : Small l) (h : Run l rest at_ told st) (hlt : at_ < l.length) :
    ∃ (q : Nat) (a r : List Nat) (rest' : List (List (List Int))), q ≤ 16 ∧ a.length = arity q ∧ (∀ n ∈ a, n ≤ 4294967295) ∧ (∀ n ∈ r, n ≤ 4294967295) ∧ l.drop at_ = ((q : Int) :: iL a) ++ (tailOf q r ++ PyFlat.put rest') ∧
      Run l rest' (at_ + (1 + a.length + (tailOf q r).length)) (told ++ (((Ie12.step st (mk q a r)).2.length : Int) :: (Ie12.step st (mk q a r)).2)) (Ie12.step st (mk q a r)).1 := by
  cases rest with
  | nil =>
    have := congrArg List.length h.here
    rw [List.length_drop] at this
    have e0 : (PyFlat.put ([] : List (List (List Int)))).length = 0 := rfl
    omega
  | cons c rest' =>
    obtain ⟨p, ai, xs, rfl, hsh⟩ := h.ok c (List.mem_cons_self ..)
    obtain ⟨q, rfl, hq, hn, hk⟩ := shape_small hsh
    have hput : l.drop at_ = ((q : Int) :: ai) ++ (PyFlat.putRows xs ++ PyFlat.put rest') := by
      rw [h.here]
      exact List.append_assoc _ _ _
    have hmem : ∀ z, z ∈ ((q : Int) :: ai) ++ (PyFlat.putRows xs ++ PyFlat.put rest') → 0 ≤ z ∧ z ≤ 4294967295 := fun z hz => hl z (List.mem_of_mem_drop (by rw [hput]; exact hz))
    obtain ⟨a, rfl⟩ := small_nat (l := ai) fun z hz => hmem z (List.mem_append_left _ (List.mem_cons_of_mem _ hz))
    have ha : a.length = arity q := by
      rw [← hn]
      unfold iL
      rw [List.length_map]
    have ha2 : ∀ n ∈ a, n ≤ 4294967295 := fun n hn => by
      have := (hmem (n : Int) (List.mem_append_left _ (List.mem_cons_of_mem _ (List.mem_map.mpr ⟨n, hn, rfl⟩)))).2
      omega
    -- the row
    obtain ⟨r, hr2, hrow, hxs⟩ : ∃ r : List Nat, (∀ n ∈ r, n ≤ 4294967295) ∧ PyFlat.putRows xs = tailOf q r ∧ xs = if q = 10 then [iL r] else [] := by
      by_cases h10 : q = 10
      · rw [if_pos h10] at hk
        match xs, hk with
        | [x], _ =>
          obtain ⟨r, rfl⟩ := small_nat (l := x) fun z hz => hmem z (List.mem_append_right _ (List.mem_append_left _ (by
            show z ∈ PyFlat.putRow x ++ PyFlat.putRows []
            exact List.mem_append_left _ (List.mem_cons_of_mem _ hz))))
          refine ⟨r, fun n hn => ?_, ?_, by rw [if_pos h10]⟩
          · have := (hmem (n : Int) (List.mem_append_right _ (List.mem_append_left _ (by
              show (n : Int) ∈ PyFlat.putRow (iL r) ++ PyFlat.putRows []
              exact List.mem_append_left _ (List.mem_cons_of_mem _ (List.mem_map.mpr ⟨n, hn, rfl⟩)))))).2
            omega
          · unfold tailOf
            rw [if_pos h10]
            show ((iL r).length : Int) :: (iL r ++ []) = _
            unfold iL
            rw [List.append_nil, List.length_map]
      · rw [if_neg h10] at hk
        match xs, hk with
        | [], _ => exact ⟨[], (fun n hn => by cases hn), by unfold tailOf; rw [if_neg h10]; rfl, by rw [if_neg h10]⟩
    rw [hrow] at hput
    have hlen := congrArg List.length hput
    rw [List.length_drop, List.length_append, List.length_append, List.length_cons] at hlen
    have hil : (iL a).length = a.length := by unfold iL; rw [List.length_map]
    rw [hil] at hlen
    have hdrop : l.drop (at_ + (1 + a.length + (tailOf q r).length)) = PyFlat.put rest' := by
      rw [← List.drop_drop, hput, ← List.append_assoc]
      have e : 1 + a.length + (tailOf q r).length = (((q : Int) :: iL a) ++ tailOf q r).length := by
        rw [List.length_append, List.length_cons, hil]; omega
      rw [e]
      exact List.drop_left
    refine ⟨q, a, r, rest', hq, ha, ha2, hr2, hput, ⟨fun d hd => h.ok d (List.mem_cons_of_mem _ hd), hdrop, by omega, ?_, good_step h.good _⟩⟩
    have hst := step_whole (s := st) hq ha ha2 hr2
    rw [← hxs] at hst
    rw [h.eq]
    show told ++ PyFlat.told ((stepN st (PyIe12.whole (((q : Int) :: iL a) :: xs))).2 :: PyFlat.played stepN (stepN st (PyIe12.whole (((q : Int) :: iL a) :: xs))).1 (rest'.map PyIe12.whole)) = _
    rw [hst, List.append_assoc]
    rfl
theorem run_end {l : List Int} {rest : List (List (List Int))} {at_ : Nat} {told : List Int} {st : Ie12.St} (h : Run l rest at_ told st) (hge : l.length ≤ at_) : PyIe12.answers l = told := by
  have e := h.here
  rw [List.drop_eq_nil_of_le hge] at e
  cases rest with
  | nil =>
    rw [h.eq]
    exact List.append_nil _
  | cons c r =>
    obtain ⟨p, ai, xs, rfl, _⟩ := h.ok c (List.mem_cons_self ..)
    cases e
end FF

set_option Elab.async false
set_option linter.all false
set_option maxRecDepth 100000
set_option maxHeartbeats 2000000
namespace FF
open PySem PySem.Spec PyProof.Rows L2 Evl
/-! ### a call of a name that holds one of several defs; an instance made without arguments -/
def tCallP (i : Nat) (R : Addr → Sp → Prop) (t : TA) : TE := fun σ H Q => ∃ f sp, σ[i]? = some (some (.ref f)) ∧ R f sp ∧ t σ H fun vs H1 => sp vs H1 Q C8.E0
section
variable {X : Cx} {k i : Nat} {x : Str} {p pos : Pos} {e : Expr} {es : List Expr} {t : TA}
theorem pe_callP {R : Addr → Sp → Prop} (A : ∀ f sp, R f sp → C8.CalAt X.prog X.w X.K X.mg X.base k f sp) (hr : Room k X.A) (hN : X.N[i]? = some x) (hv : Vis X.env.scope x) (ha : PA X (e :: es) t)
    (hdb : (x == ("__debug__" : Str)) = false := by decide) (hcd : (x == ("__classdict__" : Str)) = false := by decide)
    (he : starEach (e :: es) X.env = (false, eval e X.env) :: starEach es X.env := by rfl) (hpl : (backTo pos (starEach es X.env)).any (·.1) = false := by rfl) : PE X (.Call (.Name x p) (e :: es) [] pos) (tCallP i R t) := by
  refine ⟨fun pins s σ H Q I h => ?_⟩
  obtain ⟨f, sp, hs, hR, ht⟩ := h
  obtain ⟨fd, ps, F, hk, hb⟩ := (A f sp hR).ex
  have one := pe_callL (p := p) (pos := pos) (i := i) (f := f) (dvs := []) F hr hN hv hk hb .nil (C8.pass0 (E := C8.E0)) ha hdb hcd he hpl
  refine one.run pins s σ H Q I ⟨hs, ?_⟩
  have same : (fun (vs : List V) (H1 : Hp) => sp (vs ++ []) H1 Q C8.E0) = fun vs H1 => sp vs H1 Q C8.E0 := by
    funext vs H1
    rw [List.append_nil]
  rw [same]
  exact ht
theorem pe_mk0 {C : Addr} {sp : Sp} {dvs : List V} {j : Nat} (c : C8.Mak X.prog X.w X.K X.mg X.base k x C sp dvs) (hr : Room j X.A) (hk : k + 1 ≤ j) (hg : Gl X x) (hdb : (x == ("__debug__" : Str)) = false := by decide) : PE X (.Call (.Name x p) [] [] pos) (tMake C sp dvs C8.E0 tNil) := by
  obtain ⟨f, fd, ps, ds, M, F, hm, b, d⟩ := c.ex
  exact pe_make0 M F (hr.mono hk) hg hm b d C8.pass0 hdb
end
/-! ### the table of calls -/
def tailN (q : Nat) (r : List Nat) : List Nat := if q = 10 then r.length :: r else []
def ar3 (q : Nat) : Nat := if q = 10 then 3 else arity q
/-- what every call promises, read's too -/
def spAny (K : PySem.W.Frag) (C : Addr) (q : Nat) : Sp := fun vs H Q _ => ∃ (S : Addr → Prop) (a pa g : Addr) (st : Ie12.St) (args r : List Nat), vs = [.ref a, .ref g] ∧ Kn S H ∧ FilmAt C S H a pa st ∧ GoodS st ∧ SqL K H g ((args ++ tailN q r).map nV) ∧ args.length = arity q ∧ r.length ≤ 30000 ∧ RetC C S a (Ie12.step st (mk q args r)) H Q
theorem mk_same {q : Nat} (h : q ≠ 10) (ar rr : List Nat) : mk q ar rr = mk q ar [] := by
  unfold mk
  split <;> first | rfl | omega
theorem any_call {K : PySem.W.Frag} {C : Addr} {q : Nat} (hq : q ≠ 10) : ∀ vs H Q E, spAny K C q vs H Q E → spCall K C (arity q) (fun a => mk q a []) vs H Q E := by
  intro vs H Q E h
  obtain ⟨S, a, pa, g, st, args, r, h1, h2, h3, h4, h5, h6, _, h7⟩ := h
  unfold tailN at h5
  rw [if_neg hq, List.append_nil] at h5
  rw [mk_same hq] at h7
  exact ⟨S, a, pa, g, st, args, h1, h2, h3, h4, h5, h6, h7⟩
theorem any_read {K : PySem.W.Frag} {C : Addr} : ∀ vs H Q E, spAny K C 10 vs H Q E → spRead K C vs H Q E := by
  intro vs H Q E h
  obtain ⟨S, a, pa, g, st, args, r, h1, h2, h3, h4, h5, h6, h7, h8⟩ := h
  obtain ⟨wd, ht, rfl⟩ := len2 (l := args) h6
  exact ⟨S, a, pa, g, st, wd, ht, r, h1, h2, h3, h4, h5, h7, h8⟩
/-- the table of calls as the top has written it -/
structure Tab (P : Program) (w : World) (K : PySem.W.Frag) (mg : Str → Option Value) (base : Heap) (C : Addr) (tc : Addr) : Prop where
  c_CALLS : ∃ u, mg "CALLS" = some u ∧ RelV (.ref tc) u
  rows : ∃ ts : List Addr, (∀ H, SqT K H tc (ts.map V.ref)) ∧ ∀ q, q ≤ 16 → ∃ t f sp, ts[q]? = some t ∧ (∀ H, SqT K H t [.ref f, nV (ar3 q)]) ∧ C8.CalAt P w K mg base 4 f sp ∧ ∀ vs H Q E, spAny K C q vs H Q E → sp vs H Q E
section
variable {P : Program} {w : World} {K : PySem.W.Frag} {mg : Str → Option Value} {base : Heap} {C : Addr}
theorem sq_keep {H0 H : Hp} {g : Addr} {xs : List V} (h : SqL K H0 g xs) (k : ∀ o, H0 g = some o → H g = some o) : SqL K H g xs := by
  rcases h with (h | ⟨o, h⟩) | h
  · exact .inl (.inl (k _ h))
  · exact .inl (.inr ⟨o, k _ h⟩)
  · exact .inr h
theorem iL_V (a : List Nat) : (iL a).map V.int = a.map nV := by
  unfold iL
  rw [List.map_map]
  rfl
theorem iL_len (a : List Nat) : (iL a).length = a.length := by
  unfold iL
  rw [List.length_map]
theorem tail_iL (q : Nat) (r : List Nat) : tailOf q r = iL (tailN q r) := by
  unfold tailOf tailN
  split <;> rfl
/-- a call as it stands in the list -/
structure Here (l : List Int) (at_ q : Nat) (ar rr : List Nat) : Prop where
  q16 : q ≤ 16
  len : ar.length = arity q
  few : rr.length ≤ 30000
  put : ∃ rest, l.drop at_ = ((q : Int) :: iL ar) ++ (tailOf q rr ++ rest)
theorem Here.at0 {l : List Int} {at_ q : Nat} {ar rr : List Nat} (h : Here l at_ q ar rr) : (l.map V.int)[at_]? = some (nV q) := by
  obtain ⟨rest, hd⟩ := h.put
  have := congrArg List.head? hd
  rw [List.head?_drop] at this
  rw [List.getElem?_map, this]
  rfl
theorem Here.le {l : List Int} {at_ q : Nat} {ar rr : List Nat} (h : Here l at_ q ar rr) : at_ + 1 + arity q + (tailOf q rr).length ≤ l.length := by
  obtain ⟨rest, hd⟩ := h.put
  have := congrArg List.length hd
  rw [List.length_drop, List.length_append, List.length_append, List.length_cons, iL_len, h.len] at this
  omega
theorem Here.args {l : List Int} {at_ q : Nat} {ar rr : List Nat} (h : Here l at_ q ar rr) : cutV (l.map V.int) (some ((at_ + 1 : Nat) : Int)) (some ((at_ + 1 + arity q + (tailOf q rr).length : Nat) : Int)) = (ar ++ tailN q rr).map nV := by
  have hle := h.le
  obtain ⟨rest, hd⟩ := h.put
  rw [cut_mid _ _ _ (by omega) (by rw [List.length_map]; omega), ← List.map_drop, ← List.map_take, ← iL_V]
  congr 1
  rw [← List.drop_drop, hd]
  show List.take _ (iL ar ++ (tailOf q rr ++ rest)) = _
  rw [← List.append_assoc, tail_iL]
  have e : iL ar ++ iL (tailN q rr) = iL (ar ++ tailN q rr) := by unfold iL; rw [List.map_append]
  rw [e]
  rw [show at_ + 1 + arity q + (iL (tailN q rr)).length - (at_ + 1) = (iL (ar ++ tailN q rr)).length by rw [iL_len, iL_len, List.length_append, h.len]; omega]
  exact List.take_left
/-! ### end_of_call -/
def spEndOf (K : PySem.W.Frag) : Sp := fun vs H Q _ => ∃ (g : Addr) (l : List Int) (at_ q : Nat) (ar rr : List Nat), vs = [.ref g, nV at_] ∧ SqL K H g (l.map V.int) ∧ Here l at_ q ar rr ∧ RetV (nV (at_ + 1 + arity q + (tailOf q rr).length)) H Q
theorem ok_end_of_call {f tc : Addr} {fd : FuncData} (T : Txt mg) (Tb : Tab P w K mg base C tc) (F : C8.Def K mg "end_of_call" s_end_of_call f fd) (b : Binds K fd ["calls", "at"] []) : C8.Cal P w K mg base 1 "end_of_call" (spEndOf K) [] := by
  refine C8.cal0 F b .nil sc_end_of_call (fun vs H Q E h => ?_) (fun cdv A outer s H vs Q E hr h => ?_)
  · obtain ⟨g, l, at_, q, ar, rr, rfl, _⟩ := h; rfl
  · obtain ⟨g, l, at_, q, ar, rr, rfl, hg, hh, k⟩ := h
    obtain ⟨ts, hts, hrow⟩ := Tb.rows
    obtain ⟨t, fr, sp, ht, hrowt, _, _⟩ := hrow q hh.q16
    refine ⟨_, (pss_cons (ps_set (i := 2) sc_end_of_call.nd rfl (.inl rfl) (pe_op op_add (pe_op op_add (pv 1) pe_int) (pe_ix ix_tup (pe_ix ix_tup (C8.pe_gc rfl Tb.c_CALLS) (pe_ix ix_list (pv 0) (pv 1) (fun _ _ => rfl)) (fun _ _ => rfl)) pe_int (fun _ _ => rfl))))
      (pss_cons (ps_if (pt_cmpR op_eq (pe_ix ix_list (pv 0) (pv 1) (fun _ _ => rfl)) (C8.pe_gc rfl T.c_READ) (nomark _))
        (pss_one (ps_ret (pe_op op_add (pv 2) (pe_ix ix_list (pv 0) (pe_op op_sub (pv 2) pe_int) (fun _ _ => rfl)))))
        pss_nil)
      (pss_one (ps_ret (pv 2))))), ?_⟩
    have hat : ∀ {σ : L2.St} {H1 : Hp}, Ex H H1 → σ[0]? = some (some (.ref g)) → σ[1]? = some (some (nV at_)) → Ev (tOp (rIxL K) (tVar 0) (tVar 1)) σ H1 (nV q) := fun e h0 h1 => ev_op (ev_var h0) (ev_var h1) (rv_ixLN (ex_l e hg) hh.at0)
    refine q_asg (v := nV (at_ + 1 + ar3 q)) (ev_op (ev_op (ev_var (v := nV at_) rfl) (ev_c (v := nV 1)) rv_addN) (ev_op (ev_op ev_c (hat (Ex.refl H) rfl rfl) (rv_ixTN (hts _) (by rw [List.getElem?_map, ht]; rfl))) (ev_c (v := nV 1)) (rv_ixTN (v := nV (ar3 q)) (hrowt _) rfl)) rv_addN) fun H1 e1 => ?_
    refine q_when (et_test (ev_op (hat e1 rfl rfl) (ev_c (v := nV 10)) rv_eqN)) (fun hb H2 e2 => ?_) (fun hb H2 e2 => ?_)
    · have h10 := of_decide_eq_true hb
      subst h10
      have e12 := e1.trans e2
      have hin : (l.map V.int)[at_ + 1 + 3 - 1]? = some (nV rr.length) := by
        obtain ⟨rest, hd⟩ := hh.put
        have e0 : (l.drop at_)[3]? = l[at_ + 3]? := List.getElem?_drop
        rw [List.getElem?_map, show at_ + 1 + 3 - 1 = at_ + 3 by omega, ← e0, hd]
        obtain ⟨x, y, rfl⟩ := len2 (l := ar) hh.len
        rfl
      refine s_ret (ev_is (ev_op (ev_var (v := nV (at_ + 1 + 3)) rfl) (ev_op (ev_var rfl) (ev_op (ev_var (v := nV (at_ + 1 + 3)) rfl) (ev_c (v := nV 1)) (rv_subN (by omega))) (rv_ixLN (ex_l e12 hg) hin)) rv_addN) ?_) fun H3 e3 => k H3 (e12.trans e3)
      congr 1
      have : (tailOf 10 rr).length = rr.length + 1 := by rw [tail_iL, iL_len]; rfl
      rw [this]
      show at_ + 1 + 3 + rr.length = at_ + 1 + 2 + (rr.length + 1)
      omega
    · have h10 := of_decide_eq_false hb
      have e1' : ar3 q = arity q := by unfold ar3; rw [if_neg h10]
      have e2' : (tailOf q rr).length = 0 := by unfold tailOf; rw [if_neg h10]; rfl
      rw [e2', Nat.add_zero, ← e1'] at k
      exact s_ret (ev_var rfl) fun H3 e3 => k H3 ((e1.trans e2).trans e3)
/-! ### answer_calls -/
def spLoop (K : PySem.W.Frag) (C : Addr) : Sp := fun vs H Q _ => ∃ (S : Addr → Prop) (a pa g : Addr) (l : List Int), vs = [.ref a, .ref g] ∧ (∀ b, S b → b = g) ∧ Kn S H ∧ (S g ∨ ∀ H', SqL K H' g (l.map V.int)) ∧ FilmAt C S H a pa Ie12.init ∧ SqL K H g (l.map V.int) ∧ Small l ∧ PyIe12.answers_asked l = true ∧
  l.length ≤ 21000 ∧ ∀ H' p, H' p = some (.lst ((PyIe12.answers l).map V.int)) → Q (.ref p) H'
theorem run_here {l : List Int} {rest : List (List (List Int))} {at_ : Nat} {told : List Int} {st : Ie12.St} (hz : l.length ≤ 21000) (hl : Small l) (h : Run l rest at_ told st) (hlt : at_ < l.length) :
    ∃ (q : Nat) (ar rr : List Nat) (rest' : List (List (List Int))), Here l at_ q ar rr ∧ Run l rest' (at_ + 1 + arity q + (tailOf q rr).length) (told ++ (((Ie12.step st (mk q ar rr)).2.length : Int) :: (Ie12.step st (mk q ar rr)).2)) (Ie12.step st (mk q ar rr)).1 := by
  obtain ⟨q, ar, rr, rest', hq, har, _, _, hdrop, run'⟩ := run_turn hl h hlt
  by_cases h10 : q = 10
  · refine ⟨q, ar, rr, rest', ⟨hq, har, ?_, ⟨_, hdrop⟩⟩, ?_⟩
    · have := congrArg List.length hdrop
      rw [List.length_drop, List.length_append, List.length_append] at this
      have e : (tailOf q rr).length = rr.length + 1 := by
        rw [tail_iL, iL_len]
        unfold tailN
        rw [if_pos h10]
        rfl
      omega
    · have e : at_ + (1 + ar.length + (tailOf q rr).length) = at_ + 1 + arity q + (tailOf q rr).length := by omega
      rw [← e]
      exact run'
  · have e1 : ∀ r, tailOf q r = [] := fun r => by unfold tailOf; rw [if_neg h10]
    rw [e1] at hdrop run'
    rw [mk_same h10] at run'
    refine ⟨q, ar, [], rest', ⟨hq, har, by simp, ⟨PyFlat.put rest', ?_⟩⟩, ?_⟩
    · rw [e1]; exact hdrop
    · rw [e1]
      have e : at_ + (1 + ar.length + ([] : List Int).length) = at_ + 1 + arity q + ([] : List Int).length := by rw [List.length_nil]; omega
      rw [← e]
      exact run'
theorem ok_answer_calls {f tc : Addr} {fd : FuncData} (T : Txt mg) (L : Cla K C) (Tb : Tab P w K mg base C tc) (c_end_of_call : C8.Cal P w K mg base 1 "end_of_call" (spEndOf K) []) (F : C8.Def K mg "answer_calls" s_answer_calls f fd) (b : Binds K fd ["film", "calls"] []) : C8.Cal P w K mg base 5 "answer_calls" (spLoop K C) [] := by
  refine C8.cal0 F b .nil sc_answer_calls (fun vs H Q E h => ?_) (fun cdv A outer s H vs Q E hr h => ?_)
  · obtain ⟨S, a, pa, g, l, rfl, _⟩ := h; rfl
  · obtain ⟨S, a, pa, g, l, rfl, hS, hk, hSg, hfilm, hg, hsm, hask, hlen, k⟩ := h
    obtain ⟨raw, hrun, hbig⟩ := run_start hask
    obtain ⟨ts, hts, hrow⟩ := Tb.rows
    let R : Addr → Sp → Prop := fun f sp => C8.CalAt P w K mg base 4 f sp
    have hR : ∀ f sp, R f sp → C8.CalAt P w K mg base 4 f sp := fun f sp h => h
    refine ⟨_, (pss_cons (ps_set (i := 2) sc_answer_calls.nd rfl (.inl rfl) (pe_lst pa_nil))
      (pss_cons (ps_set (i := 3) sc_answer_calls.nd rfl (.inl rfl) pe_int)
      (pss_cons (ps_while PassesOwn.never (pt_cmpR op_lt (pv 3) (pe_callB call_len_seq (by rfl) T.b_len PySem.boot_len (pa_cons (pv 1) pa_nil)) (nomark _))
        (pss_cons (ps_set (i := 4) sc_answer_calls.nd rfl (.inl rfl) (pe_ix ix_tup (pe_ix ix_tup (C8.pe_gc rfl Tb.c_CALLS) (pe_ix ix_list (pv 1) (pv 3) (fun _ _ => rfl)) (fun _ _ => rfl)) pe_int (fun _ _ => rfl)))
        (pss_cons (ps_set (i := 5) sc_answer_calls.nd rfl (.inl rfl) (C8.pe_c c_end_of_call hr (by decide) rfl (pa_cons (pv 1) (pa_cons (pv 3) pa_nil))))
        (pss_cons (ps_set (i := 6) sc_answer_calls.nd rfl (.inl rfl) (pe_callP (i := 4) (R := R) hR hr rfl (Or.inl rfl) (pa_cons (pv 0) (pa_cons (pe_slice sl_list (pv 1) (po_some (pe_op op_add (pv 3) pe_int)) (po_some (pv 5))) pa_nil))))
        (pss_cons (ps_expr (pe_bm PySem.F.plainAttrs_list PySem.F.slot_list_append PySem.F.type_list_append mt_append (pv 2) (pa_cons (pe_callB call_len_seq (by rfl) T.b_len PySem.boot_len (pa_cons (pv 6) pa_nil)) pa_nil)))
        (pss_cons (ps_expr (pe_bm PySem.F.plainAttrs_list PySem.F.slot_list_extend PySem.F.type_list_extend mt_extend (pv 2) (pa_cons (pv 6) pa_nil)))
        (pss_one (ps_set (i := 3) sc_answer_calls.nd rfl (.inl rfl) (pv 5)))))))))
      (pss_one (ps_ret (pv 2)))))), ?_⟩
    refine q_asgL (el_lst ea_nil (by decide)) fun tl H1 ntl e1 h1 => ?_
    refine q_asg (v := nV 0) ev_c fun H2 e2 => ?_
    have e12 := e1.trans e2
    have ntS : ¬ S tl := hk.ne ntl
    -- the told list is none of the film's
    have hf2 : FilmAt C (With S tl) H2 a pa Ie12.init := hfilm.go ⟨fun b o h _ => e12 _ _ h, fun b sb => sb.elim .inl fun z => .inr (by rw [z]; exact ntl)⟩
    refine q_while (fun m σ' H' => ∃ (at_ : Nat) (told : List Int) (st : Ie12.St) (rest : List (List (List Int))) (pa' : Addr) (y4 y5 y6 : Option V), m = l.length - at_ ∧ σ' = [some (.ref a), some (.ref g), some (.ref tl), some (nV at_), y4, y5, y6] ∧ Run l rest at_ told st ∧ H' tl = some (.lst (told.map V.int)) ∧ FilmAt C (With S tl) H' a pa' st ∧ ∀ b o, S b → H b = some o → H' b = some o)
      l.length ⟨0, [], Ie12.init, raw, pa, none, none, none, rfl, rfl, hrun, e2 _ _ h1, hf2, fun b o _ h => e12 _ _ h⟩ (fun m σ' H' hW => ?_)
    obtain ⟨at_, told, st, rest, pa', y4, y5, y6, rfl, rfl, run, htl, hfilm', hkeep⟩ := hW
    have hg' : SqL K H' g (l.map V.int) := hSg.elim (fun hs => sq_keep hg fun o ho => hkeep g o hs ho) fun hs => hs H'
    have hkn : Kn (With S tl) H' := fun b sb => by
      rcases sb with sb | sb
      · intro z
        cases q : H b with
        | none => exact hk b sb q
        | some o => rw [hkeep b o sb q] at z; cases z
      · rw [sb, htl]; exact fun z => by cases z
    refine ⟨decide (at_ < l.length), et_test (ev_op (ev_var (v := nV at_) rfl) (ev_is (ev_lenL (ev_var rfl) hg') (by rw [List.length_map])) rv_ltN), fun hb H3 e3 => ?_, fun hb H3 e3 => ?_⟩
    · have hlt := of_decide_eq_true hb
      obtain ⟨q, ar, rr, rest', hh, run'⟩ := run_here hlen hsm run hlt
      obtain ⟨t, f, sp, ht, hrowt, hcal, hany⟩ := hrow q hh.q16
      have hbig2 : told.length + (1 + (Ie12.step st (mk q ar rr)).2.length) ≤ 10000000 := by
        have := congrArg List.length run'.eq
        rw [List.length_append, List.length_append, List.length_cons] at this
        omega
      have hline : sizeLine = 16777216 := rfl
      generalize hbeh : at_ + 1 + arity q + (tailOf q rr).length = beh at *
      refine ⟨fun σ2 H4 => ∃ (at2 : Nat) (told : List Int) (st : Ie12.St) (rest : List (List (List Int))) (pa' : Addr) (y4 y5 y6 : Option V), at_ < at2 ∧ σ2 = [some (.ref a), some (.ref g), some (.ref tl), some (nV at2), y4, y5, y6] ∧ Run l rest at2 told st ∧ H4 tl = some (.lst (told.map V.int)) ∧ FilmAt C (With S tl) H4 a pa' st ∧ ∀ b o, S b → H b = some o → H4 b = some o, fun σ2 H4 hN => ?_, ?_⟩
      · obtain ⟨at2, told2, st2, rest2, pa2, z4, z5, z6, h1, h2, h3, h4, h5, h6⟩ := hN
        exact ⟨l.length - at2, by omega, at2, told2, st2, rest2, pa2, z4, z5, z6, rfl, h2, h3, h4, h5, h6⟩
      · refine q_asg (v := .ref f) (ev_op (ev_op ev_c (ev_op (ev_var rfl) (ev_var (v := nV at_) rfl) (rv_ixLN (ex_l e3 hg') hh.at0)) (rv_ixTN (hts _) (by rw [List.getElem?_map, ht]; rfl))) (ev_c (v := nV 0)) (rv_ixTN (v := .ref f) (hrowt _) rfl)) fun H4 e4 => ?_
        refine q_asg (v := nV beh) (ev_call (ea_cons (ev_var (v := .ref g) rfl) (ea_cons (ev_var (v := nV at_) rfl) ea_nil)) fun H5 e5 Q q _ => ⟨g, l, at_, _, ar, rr, rfl, ex_l ((e3.trans e4).trans e5) hg', hh, by rw [hbeh]; exact q⟩) fun H5 e5 => ?_
        have e16 : Ex H' H5 := (e3.trans e4).trans e5
        -- answer = carry_out(film, calls[at + 1:behind])
        refine ⟨f, sp, rfl, hcal, ?_⟩
        refine ⟨_, rfl, ?_⟩
        have hargs := hh.args
        rw [hbeh] at hargs
        have a1 : EvL (tSl (rSlL K) (tVar 1) (tPart (tOp (rI0 fun i j => .int (i + j)) (tVar 3) (tC (.int 1)))) (tPart (tVar 5))) [some (.ref a), some (.ref g), some (.ref tl), some (nV at_), some (.ref f), some (nV beh), y6] H5 ((ar ++ tailN q rr).map nV) := el_is (el_sl (ev_var rfl) (eo_nat (ev_op (ev_var (v := nV at_) rfl) (ev_c (v := nV 1)) rv_addN)) (eo_nat (i := beh) (ev_var rfl)) (ex_l e16 hg')) hargs
        refine a1 H5 (Ex.refl H5) _ fun gv H7 ngv e7 hgv => ?_
        have e17 : Ex H' H7 := e16.trans e7
        refine hany _ _ _ _ ⟨With S tl, a, pa', gv, st, ar, rr, rfl, hkn.ex e17, hfilm'.ex e17, run.good, sq_of hgv, hh.len, hh.few, fun p pa2 H8 np hkp hfilm2 hp => ?_⟩
        have htl8 : H8 tl = some (.lst (told.map V.int)) := hkp tl _ (.inr rfl) (e17 _ _ htl)
        have nptl : p ≠ tl := fun z => np (.inr z)
        -- numbers.append(len(answer))
        refine q_appW htl8 (ev_var rfl) (v := nV (Ie12.step st (mk q ar rr)).2.length) (ev_is (ev_lenL (ev_var rfl) (sq_of hp)) (by rw [List.length_map])) (by rw [List.length_map]; omega) fun H9 e9 => ?_
        have hp9 : (upd H9 tl (.lst (told.map V.int ++ [nV (Ie12.step st (mk q ar rr)).2.length]))) p = some (.lst ((Ie12.step st (mk q ar rr)).2.map V.int)) := by
          rw [upd_ne nptl]; exact e9 _ _ hp
        -- numbers.extend(answer)
        refine q_extW (xs := told.map V.int ++ [nV (Ie12.step st (mk q ar rr)).2.length]) upd_same (ev_var rfl) (ev_var rfl) hp9 (by rw [List.length_append, List.length_map, List.length_map, List.length_singleton]; omega) fun H10 e10 => ?_
        refine s_asg (v := nV beh) (ev_var rfl) fun H11 e11 => ?_
        have hw : ∀ b o, b ≠ tl → H8 b = some o → H11 b = some o := fun b o nb hb => e11 _ _ (by
          rw [upd_ne nb]
          exact e10 _ _ (by rw [upd_ne nb]; exact e9 _ _ hb))
        refine ⟨beh, told ++ (((Ie12.step st (mk q ar rr)).2.length : Int) :: (Ie12.step st (mk q ar rr)).2), _, rest', pa2, _, _, _, by omega, rfl, run', e11 _ _ ?_, hfilm2.go ⟨fun b o hb nb => hw b o (fun z => nb (.inr z)) hb, fun b sb => .inl sb⟩, fun b o sb hb => hw b o (fun z => ntS (z ▸ sb)) (hkp b o (.inl sb) (e17 _ _ (hkeep b o sb hb)))⟩
        rw [upd_same, List.append_assoc, List.map_append]
        rfl
    · have hge := of_decide_eq_false hb
      refine s_ret (ev_var rfl) fun H4 e4 => k H4 tl ?_
      rw [run_end run (by omega)]
      exact (e3.trans e4) _ _ htl

/-! ### answers -/
def spAns (K : PySem.W.Frag) : Sp := fun vs H Q _ => ∃ (g : Addr) (l : List Int), vs = [.ref g] ∧ SqL K H g (l.map V.int) ∧ Small l ∧ PyIe12.answers_asked l = true ∧ l.length ≤ 21000 ∧ ∀ H' p, H' p = some (.lst ((PyIe12.answers l).map V.int)) → Q (.ref p) H'
theorem ok_answers {f : Addr} {fd : FuncData} (T : Txt mg) (m_Film : C8.Mak P w K mg base 4 "Film" C (spInit C) []) (c_answer_calls : C8.Cal P w K mg base 5 "answer_calls" (spLoop K C) []) (F : C8.Def K mg "answers" s_answers f fd) : FnOk P w K mg base C8.CX0 6 f fd ["calls"] (spAns K) := by
  refine C8.fn0 F.fn sc_answers (fun vs H Q E h => ?_) (fun cdv A outer s H vs Q E hr h => ?_)
  · obtain ⟨g, l, rfl, _⟩ := h; rfl
  · obtain ⟨g, l, rfl, hg, hsm, hask, hlen, k⟩ := h
    refine ⟨_, (pss_one (ps_ret (C8.pe_c c_answer_calls hr (by decide) rfl (pa_cons (pe_mk0 m_Film hr (by decide) rfl) (pa_cons (pv 0) pa_nil))))), ?_⟩
    intro x dx nx ndx ne
    have kept : ∀ b o, H b = some o → (upd (upd H dx (.own x)) x (.ins C dx [])) b = some o := fun b o hb => by
      rw [upd_ne (ne_of_none hb nx), upd_ne (ne_of_none hb ndx)]; exact hb
    refine ⟨fun b => b = g ∧ H g ≠ none, x, dx, rfl, fun b sb z => ?_, fun sx => ?_, upd_same, fun H1 pa hB hfilm => ⟨rfl, ⟨_, rfl, ?_⟩⟩⟩
    · obtain ⟨rfl, h2⟩ := sb
      cases q : H b with
      | none => exact h2 q
      | some o => rw [kept b o q] at z; cases z
    · obtain ⟨rfl, h2⟩ := sx
      exact h2 nx
    · have kept1 : ∀ b o, H b = some o → H1 b = some o := fun b o hb => hB b o (kept b o hb) (ne_of_none hb nx)
      refine ⟨fun b => b = g ∧ H g ≠ none, x, pa, g, l, rfl, fun b sb => sb.1, fun b sb z => ?_, ?_, hfilm, sq_keep hg fun o ho => kept1 g o ho, hsm, hask, hlen, k⟩
      · obtain ⟨rfl, h2⟩ := sb
        cases q : H b with
        | none => exact h2 q
        | some o => rw [kept1 b o q] at z; cases z
      · cases q : H g with
        | some o => exact .inl ⟨rfl, fun z => by cases z⟩
        | none =>
          rcases hg with (h | ⟨o, h⟩) | h
          · rw [q] at h; cases h
          · rw [q] at h; cases h
          · exact .inr fun H' => .inr h
end
end FF

set_option Elab.async false
set_option linter.all false
set_option maxRecDepth 100000
set_option maxHeartbeats 4000000
namespace FF
open PySem PySem.Spec PyProof.Rows L2 Evl
/-- a def by its name is the def at its place -/
theorem at_of_cal {P : Program} {w : World} {K : PySem.W.Frag} {mg : Str → Option Value} {base : Heap} {j k : Nat} {x : Str} {f : Addr} {sp : Sp} (c : C8.Cal P w K mg base j x sp []) (h : mg x = some (.ref f)) (hj : j ≤ k) : C8.CalAt P w K mg base k f sp := by
  obtain ⟨f', fd, ps, ds, F, hm, kp, b, d⟩ := c.ex
  rw [h] at hm
  cases hm
  cases d
  exact ⟨fd, ps, F.mono hj, kp, b⟩
open PySem.W (Codec) in
theorem ends_here {K : PySem.W.Frag} {H : Hp} {g : Addr} {a : Codec.denoteAll PySem.Challenge.rw_filmframes_s01_answers.args} (hs : SqL K H g ((a.1 : List Int).map V.int)) (hwi : Codec.withinAll PySem.Challenge.rw_filmframes_s01_answers.args a = true) (hask : Codec.app PySem.Challenge.rw_filmframes_s01_answers.args PySem.Challenge.rw_filmframes_s01_answers.asked a = true) :
    spAns K [V.ref g] H (fun v H' => Dw K H' v (PySem.Challenge.rw_filmframes_s01_answers.ret.enc (Codec.app PySem.Challenge.rw_filmframes_s01_answers.args PySem.Challenge.rw_filmframes_s01_answers.f a))) fun _ _ _ => False := by
  have q : ((Codec.inLen 0 21000 (a.1 : List Int) && (a.1 : List Int).all (Codec.inInt 0 4294967295)) && true) = true := hwi
  rw [Bool.and_eq_true, Bool.and_eq_true] at q
  refine ⟨g, (a.1 : List Int), rfl, hs, fun z hz => ?_, hask, ?_, fun H' p hp => .lst (L2.SqL.of hp) (L2.dw_ints _)⟩
  · have := List.all_eq_true.mp q.1.2 z hz
    exact Codec.inInt_iff.mp this
  · have := q.1.1
    unfold Codec.inLen Codec.inNat at this
    rw [Bool.and_eq_true, decide_eq_true_eq, decide_eq_true_eq] at this
    exact this.2
/-! ### the end: what the top has written -/
section
variable {K : PySem.W.Frag}
theorem fun_in {x qual : Str} {st : Stmt} {f : Addr} {oc : Value} {od an : Option Addr} {osl : Array (Option Value)} {kV doc pm cdv ct : Value} {ps : List Str} (l : K.lookup f = some ⟨oc, od, .func (PySem.W.fnOf x qual (C8.fnArgs st) (C8.fnBody st) (C8.fnScope st) .none kV doc pm an cdv ct), osl⟩)
    (c : PySem.W.codeIn K cdv qual = true) (h : ∀ (kV doc pm : Value) (an : Option Addr) (cdv ct : Value) (us : List Value), us.length = ps.length → bindArgs (PySem.W.fnOf x qual (C8.fnArgs st) (C8.fnBody st) (C8.fnScope st) .none kV doc pm an cdv ct) ⟨us, []⟩ = pure (ps.zip us)) :
    ∃ fd : FuncData, C8.Fun K x qual st f fd ∧ Binds K fd ps [] :=
  ⟨_, ⟨oc, od, .none, kV, doc, pm, an, cdv, ct, osl, rfl, l, c⟩, .all (h kV doc pm an cdv ct)⟩
end
theorem all_mk {P : Program} {w : World} {K : PySem.W.Frag} {h : Heap} {mg : Str → Option Value} {fa C : Addr} {f_init : Addr} {od_init an_init : Option Addr} {sl_init : Array (Option Value)} {oc_init kV_init dc_init pm_init cd_init ct_init : Value}
    {f_begin : Addr} {od_begin an_begin : Option Addr} {sl_begin : Array (Option Value)} {oc_begin kV_begin dc_begin pm_begin cd_begin ct_begin : Value}
    {f_remember : Addr} {od_remember an_remember : Option Addr} {sl_remember : Array (Option Value)} {oc_remember kV_remember dc_remember pm_remember cd_remember ct_remember : Value}
    {f_extent : Addr} {od_extent an_extent : Option Addr} {sl_extent : Array (Option Value)} {oc_extent kV_extent dc_extent pm_extent cd_extent ct_extent : Value}
    {f_change_frames : Addr} {od_change_frames an_change_frames : Option Addr} {sl_change_frames : Array (Option Value)} {oc_change_frames kV_change_frames dc_change_frames pm_change_frames cd_change_frames ct_change_frames : Value}
    {f_change_goes_on : Addr} {od_change_goes_on an_change_goes_on : Option Addr} {sl_change_goes_on : Array (Option Value)} {oc_change_goes_on kV_change_goes_on dc_change_goes_on pm_change_goes_on cd_change_goes_on ct_change_goes_on : Value}
    {f_change_size : Addr} {od_change_size an_change_size : Option Addr} {sl_change_size : Array (Option Value)} {oc_change_size kV_change_size dc_change_size pm_change_size cd_change_size ct_change_size : Value}
    {f_go_back : Addr} {od_go_back an_go_back : Option Addr} {sl_go_back : Array (Option Value)} {oc_go_back kV_go_back dc_go_back pm_go_back cd_go_back ct_go_back : Value}
    {f_has_frame : Addr} {od_has_frame an_has_frame : Option Addr} {sl_has_frame : Array (Option Value)} {oc_has_frame kV_has_frame dc_has_frame pm_has_frame cd_has_frame ct_has_frame : Value}
    {f_place_at : Addr} {od_place_at an_place_at : Option Addr} {sl_place_at : Array (Option Value)} {oc_place_at kV_place_at dc_place_at pm_place_at cd_place_at ct_place_at : Value}
    {f_blank_cells : Addr} {od_blank_cells an_blank_cells : Option Addr} {sl_blank_cells : Array (Option Value)} {oc_blank_cells kV_blank_cells dc_blank_cells pm_blank_cells cd_blank_cells ct_blank_cells : Value}
    {f_blank_frame : Addr} {od_blank_frame an_blank_frame : Option Addr} {sl_blank_frame : Array (Option Value)} {oc_blank_frame kV_blank_frame dc_blank_frame pm_blank_frame cd_blank_frame ct_blank_frame : Value}
    {f_all_ticks : Addr} {od_all_ticks an_all_ticks : Option Addr} {sl_all_ticks : Array (Option Value)} {oc_all_ticks kV_all_ticks dc_all_ticks pm_all_ticks cd_all_ticks ct_all_ticks : Value}
    {f_doubled : Addr} {od_doubled an_doubled : Option Addr} {sl_doubled : Array (Option Value)} {oc_doubled kV_doubled dc_doubled pm_doubled cd_doubled ct_doubled : Value}
    {f_without : Addr} {od_without an_without : Option Addr} {sl_without : Array (Option Value)} {oc_without kV_without dc_without pm_without cd_without ct_without : Value}
    {f_replaced : Addr} {od_replaced an_replaced : Option Addr} {sl_replaced : Array (Option Value)} {oc_replaced kV_replaced dc_replaced pm_replaced cd_replaced ct_replaced : Value}
    {f_in_box : Addr} {od_in_box an_in_box : Option Addr} {sl_in_box : Array (Option Value)} {oc_in_box kV_in_box dc_in_box pm_in_box cd_in_box ct_in_box : Value}
    {f_filled : Addr} {od_filled an_filled : Option Addr} {sl_filled : Array (Option Value)} {oc_filled kV_filled dc_filled pm_filled cd_filled ct_filled : Value}
    {f_put_together : Addr} {od_put_together an_put_together : Option Addr} {sl_put_together : Array (Option Value)} {oc_put_together kV_put_together dc_put_together pm_put_together cd_put_together ct_put_together : Value}
    {f_cut_out : Addr} {od_cut_out an_cut_out : Option Addr} {sl_cut_out : Array (Option Value)} {oc_cut_out kV_cut_out dc_cut_out pm_cut_out cd_cut_out ct_cut_out : Value}
    {f_nearest : Addr} {od_nearest an_nearest : Option Addr} {sl_nearest : Array (Option Value)} {oc_nearest kV_nearest dc_nearest pm_nearest cd_nearest ct_nearest : Value}
    {f_brought : Addr} {od_brought an_brought : Option Addr} {sl_brought : Array (Option Value)} {oc_brought kV_brought dc_brought pm_brought cd_brought ct_brought : Value}
    {f_own_tick : Addr} {od_own_tick an_own_tick : Option Addr} {sl_own_tick : Array (Option Value)} {oc_own_tick kV_own_tick dc_own_tick pm_own_tick cd_own_tick ct_own_tick : Value}
    {f_place_of : Addr} {od_place_of an_place_of : Option Addr} {sl_place_of : Array (Option Value)} {oc_place_of kV_place_of dc_place_of pm_place_of cd_place_of ct_place_of : Value}
    {f_frame_behind : Addr} {od_frame_behind an_frame_behind : Option Addr} {sl_frame_behind : Array (Option Value)} {oc_frame_behind kV_frame_behind dc_frame_behind pm_frame_behind cd_frame_behind ct_frame_behind : Value}
    {f_mixed : Addr} {od_mixed an_mixed : Option Addr} {sl_mixed : Array (Option Value)} {oc_mixed kV_mixed dc_mixed pm_mixed cd_mixed ct_mixed : Value}
    {f_changed_box : Addr} {od_changed_box an_changed_box : Option Addr} {sl_changed_box : Array (Option Value)} {oc_changed_box kV_changed_box dc_changed_box pm_changed_box cd_changed_box ct_changed_box : Value}
    {f_cells_in : Addr} {od_cells_in an_cells_in : Option Addr} {sl_cells_in : Array (Option Value)} {oc_cells_in kV_cells_in dc_cells_in pm_cells_in cd_cells_in ct_cells_in : Value}
    {f_told_of : Addr} {od_told_of an_told_of : Option Addr} {sl_told_of : Array (Option Value)} {oc_told_of kV_told_of dc_told_of pm_told_of cd_told_of ct_told_of : Value}
    {f_pasted : Addr} {od_pasted an_pasted : Option Addr} {sl_pasted : Array (Option Value)} {oc_pasted kV_pasted dc_pasted pm_pasted cd_pasted ct_pasted : Value}
    {f_is_head : Addr} {od_is_head an_is_head : Option Addr} {sl_is_head : Array (Option Value)} {oc_is_head kV_is_head dc_is_head pm_is_head cd_is_head ct_is_head : Value}
    {f_read_from : Addr} {od_read_from an_read_from : Option Addr} {sl_read_from : Array (Option Value)} {oc_read_from kV_read_from dc_read_from pm_read_from cd_read_from ct_read_from : Value}
    {f_is_size : Addr} {od_is_size an_is_size : Option Addr} {sl_is_size : Array (Option Value)} {oc_is_size kV_is_size dc_is_size pm_is_size cd_is_size ct_is_size : Value}
    {f_page : Addr} {od_page an_page : Option Addr} {sl_page : Array (Option Value)} {oc_page kV_page dc_page pm_page cd_page ct_page : Value}
    {f_put : Addr} {od_put an_put : Option Addr} {sl_put : Array (Option Value)} {oc_put kV_put dc_put pm_put cd_put ct_put : Value}
    {f_drop : Addr} {od_drop an_drop : Option Addr} {sl_drop : Array (Option Value)} {oc_drop kV_drop dc_drop pm_drop cd_drop ct_drop : Value}
    {f_box : Addr} {od_box an_box : Option Addr} {sl_box : Array (Option Value)} {oc_box kV_box dc_box pm_box cd_box ct_box : Value}
    {f_ticks : Addr} {od_ticks an_ticks : Option Addr} {sl_ticks : Array (Option Value)} {oc_ticks kV_ticks dc_ticks pm_ticks cd_ticks ct_ticks : Value}
    {f_loop : Addr} {od_loop an_loop : Option Addr} {sl_loop : Array (Option Value)} {oc_loop kV_loop dc_loop pm_loop cd_loop ct_loop : Value}
    {f_turn : Addr} {od_turn an_turn : Option Addr} {sl_turn : Array (Option Value)} {oc_turn kV_turn dc_turn pm_turn cd_turn ct_turn : Value}
    {f_together : Addr} {od_together an_together : Option Addr} {sl_together : Array (Option Value)} {oc_together kV_together dc_together pm_together cd_together ct_together : Value}
    {f_stretch : Addr} {od_stretch an_stretch : Option Addr} {sl_stretch : Array (Option Value)} {oc_stretch kV_stretch dc_stretch pm_stretch cd_stretch ct_stretch : Value}
    {f_bring : Addr} {od_bring an_bring : Option Addr} {sl_bring : Array (Option Value)} {oc_bring kV_bring dc_bring pm_bring cd_bring ct_bring : Value}
    {f_read : Addr} {od_read an_read : Option Addr} {sl_read : Array (Option Value)} {oc_read kV_read dc_read pm_read cd_read ct_read : Value}
    {f_undo : Addr} {od_undo an_undo : Option Addr} {sl_undo : Array (Option Value)} {oc_undo kV_undo dc_undo pm_undo cd_undo ct_undo : Value}
    {f_shown : Addr} {od_shown an_shown : Option Addr} {sl_shown : Array (Option Value)} {oc_shown kV_shown dc_shown pm_shown cd_shown ct_shown : Value}
    {f_between : Addr} {od_between an_between : Option Addr} {sl_between : Array (Option Value)} {oc_between kV_between dc_between pm_between cd_between ct_between : Value}
    {f_place : Addr} {od_place an_place : Option Addr} {sl_place : Array (Option Value)} {oc_place kV_place dc_place pm_place cd_place ct_place : Value}
    {f_told : Addr} {od_told an_told : Option Addr} {sl_told : Array (Option Value)} {oc_told kV_told dc_told pm_told cd_told ct_told : Value}
    {f_listed : Addr} {od_listed an_listed : Option Addr} {sl_listed : Array (Option Value)} {oc_listed kV_listed dc_listed pm_listed cd_listed ct_listed : Value}
    {f_end_of_call : Addr} {od_end_of_call an_end_of_call : Option Addr} {sl_end_of_call : Array (Option Value)} {oc_end_of_call kV_end_of_call dc_end_of_call pm_end_of_call cd_end_of_call ct_end_of_call : Value}
    {f_answer_calls : Addr} {od_answer_calls an_answer_calls : Option Addr} {sl_answer_calls : Array (Option Value)} {oc_answer_calls kV_answer_calls dc_answer_calls pm_answer_calls cd_answer_calls ct_answer_calls : Value}
    {f_answers : Addr} {od_answers an_answers : Option Addr} {sl_answers : Array (Option Value)} {oc_answers kV_answers dc_answers pm_answers cd_answers ct_answers : Value}
    {t_MOST_TICKS : Tok}
    {t_MOST_NUMBER : Tok}
    {t_STAYS : Tok}
    {t_GOES_ROUND : Tok}
    {t_THERE_AND_BACK : Tok}
    {t_HEAD : Tok}
    {t_MOST_SIDE : Tok}
    {t_MOST_FRAMES : Tok}
    {t_MOST_UNDONE : Tok}
    {t_BAD_SIZE : Tok}
    {t_NO_FRAME : Tok}
    {t_BAD_NUMBER : Tok}
    {t_NOTHING_TO_UNDO : Tok}
    {t_BAD_FRAME_COUNT : Tok}
    {t_BAD_TICKS : Tok}
    {t_READ : Tok}
    {tc_CALLS : Addr} {odt_CALLS : Option Addr} {nt_CALLS : Nat} {slt_CALLS : Array (Option Value)}
    {r_CALLS_0 : Addr} {odr_CALLS_0 : Option Addr} {nr_CALLS_0 : Nat} {slr_CALLS_0 : Array (Option Value)}
    {tk_CALLS_0_1 : Tok}
    {r_CALLS_1 : Addr} {odr_CALLS_1 : Option Addr} {nr_CALLS_1 : Nat} {slr_CALLS_1 : Array (Option Value)}
    {tk_CALLS_1_1 : Tok}
    {r_CALLS_2 : Addr} {odr_CALLS_2 : Option Addr} {nr_CALLS_2 : Nat} {slr_CALLS_2 : Array (Option Value)}
    {tk_CALLS_2_1 : Tok}
    {r_CALLS_3 : Addr} {odr_CALLS_3 : Option Addr} {nr_CALLS_3 : Nat} {slr_CALLS_3 : Array (Option Value)}
    {tk_CALLS_3_1 : Tok}
    {r_CALLS_4 : Addr} {odr_CALLS_4 : Option Addr} {nr_CALLS_4 : Nat} {slr_CALLS_4 : Array (Option Value)}
    {tk_CALLS_4_1 : Tok}
    {r_CALLS_5 : Addr} {odr_CALLS_5 : Option Addr} {nr_CALLS_5 : Nat} {slr_CALLS_5 : Array (Option Value)}
    {tk_CALLS_5_1 : Tok}
    {r_CALLS_6 : Addr} {odr_CALLS_6 : Option Addr} {nr_CALLS_6 : Nat} {slr_CALLS_6 : Array (Option Value)}
    {tk_CALLS_6_1 : Tok}
    {r_CALLS_7 : Addr} {odr_CALLS_7 : Option Addr} {nr_CALLS_7 : Nat} {slr_CALLS_7 : Array (Option Value)}
    {tk_CALLS_7_1 : Tok}
    {r_CALLS_8 : Addr} {odr_CALLS_8 : Option Addr} {nr_CALLS_8 : Nat} {slr_CALLS_8 : Array (Option Value)}
    {tk_CALLS_8_1 : Tok}
    {r_CALLS_9 : Addr} {odr_CALLS_9 : Option Addr} {nr_CALLS_9 : Nat} {slr_CALLS_9 : Array (Option Value)}
    {tk_CALLS_9_1 : Tok}
    {r_CALLS_10 : Addr} {odr_CALLS_10 : Option Addr} {nr_CALLS_10 : Nat} {slr_CALLS_10 : Array (Option Value)}
    {tk_CALLS_10_1 : Tok}
    {r_CALLS_11 : Addr} {odr_CALLS_11 : Option Addr} {nr_CALLS_11 : Nat} {slr_CALLS_11 : Array (Option Value)}
    {tk_CALLS_11_1 : Tok}
    {r_CALLS_12 : Addr} {odr_CALLS_12 : Option Addr} {nr_CALLS_12 : Nat} {slr_CALLS_12 : Array (Option Value)}
    {tk_CALLS_12_1 : Tok}
    {r_CALLS_13 : Addr} {odr_CALLS_13 : Option Addr} {nr_CALLS_13 : Nat} {slr_CALLS_13 : Array (Option Value)}
    {tk_CALLS_13_1 : Tok}
    {r_CALLS_14 : Addr} {odr_CALLS_14 : Option Addr} {nr_CALLS_14 : Nat} {slr_CALLS_14 : Array (Option Value)}
    {tk_CALLS_14_1 : Tok}
    {r_CALLS_15 : Addr} {odr_CALLS_15 : Option Addr} {nr_CALLS_15 : Nat} {slr_CALLS_15 : Array (Option Value)}
    {tk_CALLS_15_1 : Tok}
    {r_CALLS_16 : Addr} {odr_CALLS_16 : Option Addr} {nr_CALLS_16 : Nat} {slr_CALLS_16 : Array (Option Value)}
    {tk_CALLS_16_1 : Tok} (X : K.In h) (G : h.Ns mainGlobals mg) (hfa : mg "answers" = some (.ref fa))
    (aC : PySem.W.nsIn K mainGlobals "Film" = some (some (.ref C)))
    (pg : PySem.W.plainGet K C Str.empty = true)
    (hd : PySem.W.hasDictIn K C = true)
    (po : PySem.W.plainOver K C = true)
    (sa : PySem.W.findIn K (.ref C) "__setattr__" = some (some (.builtin "object.__setattr__")))
    (mk_ : PySem.W.makesIn K C = true)
    (kc : PySem.W.keepIn K (.ref C) = true)
    (n_width : PySem.W.findIn K (.ref C) "width" = some none)
    (n_height : PySem.W.findIn K (.ref C) "height" = some none)
    (n_goes_on : PySem.W.findIn K (.ref C) "goes_on" = some none)
    (n_frames : PySem.W.findIn K (.ref C) "frames" = some none)
    (n_past : PySem.W.findIn K (.ref C) "past" = some none)
    (a_init : PySem.W.findIn K (.ref C) "__init__" = some (some (.ref f_init)))
    (l_init : K.lookup f_init = some ⟨oc_init, od_init, .func (PySem.W.fnOf "__init__" "Film.__init__" (C8.fnArgs s_init) (C8.fnBody s_init) (C8.fnScope s_init) .none kV_init dc_init pm_init an_init cd_init ct_init), sl_init⟩)
    (c_init : PySem.W.codeIn K cd_init "Film.__init__" = true)
    (k_init : PySem.W.keepIn K (.ref f_init) = true)
    (i_init : PySem.W.isFn K (.ref f_init) = true)
    (a_begin : PySem.W.findIn K (.ref C) "begin" = some (some (.ref f_begin)))
    (l_begin : K.lookup f_begin = some ⟨oc_begin, od_begin, .func (PySem.W.fnOf "begin" "Film.begin" (C8.fnArgs s_begin) (C8.fnBody s_begin) (C8.fnScope s_begin) .none kV_begin dc_begin pm_begin an_begin cd_begin ct_begin), sl_begin⟩)
    (c_begin : PySem.W.codeIn K cd_begin "Film.begin" = true)
    (k_begin : PySem.W.keepIn K (.ref f_begin) = true)
    (i_begin : PySem.W.isFn K (.ref f_begin) = true)
    (a_remember : PySem.W.findIn K (.ref C) "remember" = some (some (.ref f_remember)))
    (l_remember : K.lookup f_remember = some ⟨oc_remember, od_remember, .func (PySem.W.fnOf "remember" "Film.remember" (C8.fnArgs s_remember) (C8.fnBody s_remember) (C8.fnScope s_remember) .none kV_remember dc_remember pm_remember an_remember cd_remember ct_remember), sl_remember⟩)
    (c_remember : PySem.W.codeIn K cd_remember "Film.remember" = true)
    (k_remember : PySem.W.keepIn K (.ref f_remember) = true)
    (i_remember : PySem.W.isFn K (.ref f_remember) = true)
    (a_extent : PySem.W.findIn K (.ref C) "extent" = some (some (.ref f_extent)))
    (l_extent : K.lookup f_extent = some ⟨oc_extent, od_extent, .func (PySem.W.fnOf "extent" "Film.extent" (C8.fnArgs s_extent) (C8.fnBody s_extent) (C8.fnScope s_extent) .none kV_extent dc_extent pm_extent an_extent cd_extent ct_extent), sl_extent⟩)
    (c_extent : PySem.W.codeIn K cd_extent "Film.extent" = true)
    (k_extent : PySem.W.keepIn K (.ref f_extent) = true)
    (i_extent : PySem.W.isFn K (.ref f_extent) = true)
    (a_change_frames : PySem.W.findIn K (.ref C) "change_frames" = some (some (.ref f_change_frames)))
    (l_change_frames : K.lookup f_change_frames = some ⟨oc_change_frames, od_change_frames, .func (PySem.W.fnOf "change_frames" "Film.change_frames" (C8.fnArgs s_change_frames) (C8.fnBody s_change_frames) (C8.fnScope s_change_frames) .none kV_change_frames dc_change_frames pm_change_frames an_change_frames cd_change_frames ct_change_frames), sl_change_frames⟩)
    (c_change_frames : PySem.W.codeIn K cd_change_frames "Film.change_frames" = true)
    (k_change_frames : PySem.W.keepIn K (.ref f_change_frames) = true)
    (i_change_frames : PySem.W.isFn K (.ref f_change_frames) = true)
    (a_change_goes_on : PySem.W.findIn K (.ref C) "change_goes_on" = some (some (.ref f_change_goes_on)))
    (l_change_goes_on : K.lookup f_change_goes_on = some ⟨oc_change_goes_on, od_change_goes_on, .func (PySem.W.fnOf "change_goes_on" "Film.change_goes_on" (C8.fnArgs s_change_goes_on) (C8.fnBody s_change_goes_on) (C8.fnScope s_change_goes_on) .none kV_change_goes_on dc_change_goes_on pm_change_goes_on an_change_goes_on cd_change_goes_on ct_change_goes_on), sl_change_goes_on⟩)
    (c_change_goes_on : PySem.W.codeIn K cd_change_goes_on "Film.change_goes_on" = true)
    (k_change_goes_on : PySem.W.keepIn K (.ref f_change_goes_on) = true)
    (i_change_goes_on : PySem.W.isFn K (.ref f_change_goes_on) = true)
    (a_change_size : PySem.W.findIn K (.ref C) "change_size" = some (some (.ref f_change_size)))
    (l_change_size : K.lookup f_change_size = some ⟨oc_change_size, od_change_size, .func (PySem.W.fnOf "change_size" "Film.change_size" (C8.fnArgs s_change_size) (C8.fnBody s_change_size) (C8.fnScope s_change_size) .none kV_change_size dc_change_size pm_change_size an_change_size cd_change_size ct_change_size), sl_change_size⟩)
    (c_change_size : PySem.W.codeIn K cd_change_size "Film.change_size" = true)
    (k_change_size : PySem.W.keepIn K (.ref f_change_size) = true)
    (i_change_size : PySem.W.isFn K (.ref f_change_size) = true)
    (a_go_back : PySem.W.findIn K (.ref C) "go_back" = some (some (.ref f_go_back)))
    (l_go_back : K.lookup f_go_back = some ⟨oc_go_back, od_go_back, .func (PySem.W.fnOf "go_back" "Film.go_back" (C8.fnArgs s_go_back) (C8.fnBody s_go_back) (C8.fnScope s_go_back) .none kV_go_back dc_go_back pm_go_back an_go_back cd_go_back ct_go_back), sl_go_back⟩)
    (c_go_back : PySem.W.codeIn K cd_go_back "Film.go_back" = true)
    (k_go_back : PySem.W.keepIn K (.ref f_go_back) = true)
    (i_go_back : PySem.W.isFn K (.ref f_go_back) = true)
    (a_has_frame : PySem.W.findIn K (.ref C) "has_frame" = some (some (.ref f_has_frame)))
    (l_has_frame : K.lookup f_has_frame = some ⟨oc_has_frame, od_has_frame, .func (PySem.W.fnOf "has_frame" "Film.has_frame" (C8.fnArgs s_has_frame) (C8.fnBody s_has_frame) (C8.fnScope s_has_frame) .none kV_has_frame dc_has_frame pm_has_frame an_has_frame cd_has_frame ct_has_frame), sl_has_frame⟩)
    (c_has_frame : PySem.W.codeIn K cd_has_frame "Film.has_frame" = true)
    (k_has_frame : PySem.W.keepIn K (.ref f_has_frame) = true)
    (i_has_frame : PySem.W.isFn K (.ref f_has_frame) = true)
    (a_place_at : PySem.W.findIn K (.ref C) "place_at" = some (some (.ref f_place_at)))
    (l_place_at : K.lookup f_place_at = some ⟨oc_place_at, od_place_at, .func (PySem.W.fnOf "place_at" "Film.place_at" (C8.fnArgs s_place_at) (C8.fnBody s_place_at) (C8.fnScope s_place_at) .none kV_place_at dc_place_at pm_place_at an_place_at cd_place_at ct_place_at), sl_place_at⟩)
    (c_place_at : PySem.W.codeIn K cd_place_at "Film.place_at" = true)
    (k_place_at : PySem.W.keepIn K (.ref f_place_at) = true)
    (i_place_at : PySem.W.isFn K (.ref f_place_at) = true)
    (a_blank_cells : PySem.W.nsIn K mainGlobals "blank_cells" = some (some (.ref f_blank_cells)))
    (l_blank_cells : K.lookup f_blank_cells = some ⟨oc_blank_cells, od_blank_cells, .func (PySem.W.fnOf "blank_cells" "blank_cells" (C8.fnArgs s_blank_cells) (C8.fnBody s_blank_cells) (C8.fnScope s_blank_cells) .none kV_blank_cells dc_blank_cells pm_blank_cells an_blank_cells cd_blank_cells ct_blank_cells), sl_blank_cells⟩)
    (c_blank_cells : PySem.W.codeIn K cd_blank_cells "blank_cells" = true)
    (k_blank_cells : PySem.W.keepIn K (.ref f_blank_cells) = true)
    (a_blank_frame : PySem.W.nsIn K mainGlobals "blank_frame" = some (some (.ref f_blank_frame)))
    (l_blank_frame : K.lookup f_blank_frame = some ⟨oc_blank_frame, od_blank_frame, .func (PySem.W.fnOf "blank_frame" "blank_frame" (C8.fnArgs s_blank_frame) (C8.fnBody s_blank_frame) (C8.fnScope s_blank_frame) .none kV_blank_frame dc_blank_frame pm_blank_frame an_blank_frame cd_blank_frame ct_blank_frame), sl_blank_frame⟩)
    (c_blank_frame : PySem.W.codeIn K cd_blank_frame "blank_frame" = true)
    (k_blank_frame : PySem.W.keepIn K (.ref f_blank_frame) = true)
    (a_all_ticks : PySem.W.nsIn K mainGlobals "all_ticks" = some (some (.ref f_all_ticks)))
    (l_all_ticks : K.lookup f_all_ticks = some ⟨oc_all_ticks, od_all_ticks, .func (PySem.W.fnOf "all_ticks" "all_ticks" (C8.fnArgs s_all_ticks) (C8.fnBody s_all_ticks) (C8.fnScope s_all_ticks) .none kV_all_ticks dc_all_ticks pm_all_ticks an_all_ticks cd_all_ticks ct_all_ticks), sl_all_ticks⟩)
    (c_all_ticks : PySem.W.codeIn K cd_all_ticks "all_ticks" = true)
    (k_all_ticks : PySem.W.keepIn K (.ref f_all_ticks) = true)
    (a_doubled : PySem.W.nsIn K mainGlobals "doubled" = some (some (.ref f_doubled)))
    (l_doubled : K.lookup f_doubled = some ⟨oc_doubled, od_doubled, .func (PySem.W.fnOf "doubled" "doubled" (C8.fnArgs s_doubled) (C8.fnBody s_doubled) (C8.fnScope s_doubled) .none kV_doubled dc_doubled pm_doubled an_doubled cd_doubled ct_doubled), sl_doubled⟩)
    (c_doubled : PySem.W.codeIn K cd_doubled "doubled" = true)
    (k_doubled : PySem.W.keepIn K (.ref f_doubled) = true)
    (a_without : PySem.W.nsIn K mainGlobals "without" = some (some (.ref f_without)))
    (l_without : K.lookup f_without = some ⟨oc_without, od_without, .func (PySem.W.fnOf "without" "without" (C8.fnArgs s_without) (C8.fnBody s_without) (C8.fnScope s_without) .none kV_without dc_without pm_without an_without cd_without ct_without), sl_without⟩)
    (c_without : PySem.W.codeIn K cd_without "without" = true)
    (k_without : PySem.W.keepIn K (.ref f_without) = true)
    (a_replaced : PySem.W.nsIn K mainGlobals "replaced" = some (some (.ref f_replaced)))
    (l_replaced : K.lookup f_replaced = some ⟨oc_replaced, od_replaced, .func (PySem.W.fnOf "replaced" "replaced" (C8.fnArgs s_replaced) (C8.fnBody s_replaced) (C8.fnScope s_replaced) .none kV_replaced dc_replaced pm_replaced an_replaced cd_replaced ct_replaced), sl_replaced⟩)
    (c_replaced : PySem.W.codeIn K cd_replaced "replaced" = true)
    (k_replaced : PySem.W.keepIn K (.ref f_replaced) = true)
    (a_in_box : PySem.W.nsIn K mainGlobals "in_box" = some (some (.ref f_in_box)))
    (l_in_box : K.lookup f_in_box = some ⟨oc_in_box, od_in_box, .func (PySem.W.fnOf "in_box" "in_box" (C8.fnArgs s_in_box) (C8.fnBody s_in_box) (C8.fnScope s_in_box) .none kV_in_box dc_in_box pm_in_box an_in_box cd_in_box ct_in_box), sl_in_box⟩)
    (c_in_box : PySem.W.codeIn K cd_in_box "in_box" = true)
    (k_in_box : PySem.W.keepIn K (.ref f_in_box) = true)
    (a_filled : PySem.W.nsIn K mainGlobals "filled" = some (some (.ref f_filled)))
    (l_filled : K.lookup f_filled = some ⟨oc_filled, od_filled, .func (PySem.W.fnOf "filled" "filled" (C8.fnArgs s_filled) (C8.fnBody s_filled) (C8.fnScope s_filled) .none kV_filled dc_filled pm_filled an_filled cd_filled ct_filled), sl_filled⟩)
    (c_filled : PySem.W.codeIn K cd_filled "filled" = true)
    (k_filled : PySem.W.keepIn K (.ref f_filled) = true)
    (a_put_together : PySem.W.nsIn K mainGlobals "put_together" = some (some (.ref f_put_together)))
    (l_put_together : K.lookup f_put_together = some ⟨oc_put_together, od_put_together, .func (PySem.W.fnOf "put_together" "put_together" (C8.fnArgs s_put_together) (C8.fnBody s_put_together) (C8.fnScope s_put_together) .none kV_put_together dc_put_together pm_put_together an_put_together cd_put_together ct_put_together), sl_put_together⟩)
    (c_put_together : PySem.W.codeIn K cd_put_together "put_together" = true)
    (k_put_together : PySem.W.keepIn K (.ref f_put_together) = true)
    (a_cut_out : PySem.W.nsIn K mainGlobals "cut_out" = some (some (.ref f_cut_out)))
    (l_cut_out : K.lookup f_cut_out = some ⟨oc_cut_out, od_cut_out, .func (PySem.W.fnOf "cut_out" "cut_out" (C8.fnArgs s_cut_out) (C8.fnBody s_cut_out) (C8.fnScope s_cut_out) .none kV_cut_out dc_cut_out pm_cut_out an_cut_out cd_cut_out ct_cut_out), sl_cut_out⟩)
    (c_cut_out : PySem.W.codeIn K cd_cut_out "cut_out" = true)
    (k_cut_out : PySem.W.keepIn K (.ref f_cut_out) = true)
    (a_nearest : PySem.W.nsIn K mainGlobals "nearest" = some (some (.ref f_nearest)))
    (l_nearest : K.lookup f_nearest = some ⟨oc_nearest, od_nearest, .func (PySem.W.fnOf "nearest" "nearest" (C8.fnArgs s_nearest) (C8.fnBody s_nearest) (C8.fnScope s_nearest) .none kV_nearest dc_nearest pm_nearest an_nearest cd_nearest ct_nearest), sl_nearest⟩)
    (c_nearest : PySem.W.codeIn K cd_nearest "nearest" = true)
    (k_nearest : PySem.W.keepIn K (.ref f_nearest) = true)
    (a_brought : PySem.W.nsIn K mainGlobals "brought" = some (some (.ref f_brought)))
    (l_brought : K.lookup f_brought = some ⟨oc_brought, od_brought, .func (PySem.W.fnOf "brought" "brought" (C8.fnArgs s_brought) (C8.fnBody s_brought) (C8.fnScope s_brought) .none kV_brought dc_brought pm_brought an_brought cd_brought ct_brought), sl_brought⟩)
    (c_brought : PySem.W.codeIn K cd_brought "brought" = true)
    (k_brought : PySem.W.keepIn K (.ref f_brought) = true)
    (a_own_tick : PySem.W.nsIn K mainGlobals "own_tick" = some (some (.ref f_own_tick)))
    (l_own_tick : K.lookup f_own_tick = some ⟨oc_own_tick, od_own_tick, .func (PySem.W.fnOf "own_tick" "own_tick" (C8.fnArgs s_own_tick) (C8.fnBody s_own_tick) (C8.fnScope s_own_tick) .none kV_own_tick dc_own_tick pm_own_tick an_own_tick cd_own_tick ct_own_tick), sl_own_tick⟩)
    (c_own_tick : PySem.W.codeIn K cd_own_tick "own_tick" = true)
    (k_own_tick : PySem.W.keepIn K (.ref f_own_tick) = true)
    (a_place_of : PySem.W.nsIn K mainGlobals "place_of" = some (some (.ref f_place_of)))
    (l_place_of : K.lookup f_place_of = some ⟨oc_place_of, od_place_of, .func (PySem.W.fnOf "place_of" "place_of" (C8.fnArgs s_place_of) (C8.fnBody s_place_of) (C8.fnScope s_place_of) .none kV_place_of dc_place_of pm_place_of an_place_of cd_place_of ct_place_of), sl_place_of⟩)
    (c_place_of : PySem.W.codeIn K cd_place_of "place_of" = true)
    (k_place_of : PySem.W.keepIn K (.ref f_place_of) = true)
    (a_frame_behind : PySem.W.nsIn K mainGlobals "frame_behind" = some (some (.ref f_frame_behind)))
    (l_frame_behind : K.lookup f_frame_behind = some ⟨oc_frame_behind, od_frame_behind, .func (PySem.W.fnOf "frame_behind" "frame_behind" (C8.fnArgs s_frame_behind) (C8.fnBody s_frame_behind) (C8.fnScope s_frame_behind) .none kV_frame_behind dc_frame_behind pm_frame_behind an_frame_behind cd_frame_behind ct_frame_behind), sl_frame_behind⟩)
    (c_frame_behind : PySem.W.codeIn K cd_frame_behind "frame_behind" = true)
    (k_frame_behind : PySem.W.keepIn K (.ref f_frame_behind) = true)
    (a_mixed : PySem.W.nsIn K mainGlobals "mixed" = some (some (.ref f_mixed)))
    (l_mixed : K.lookup f_mixed = some ⟨oc_mixed, od_mixed, .func (PySem.W.fnOf "mixed" "mixed" (C8.fnArgs s_mixed) (C8.fnBody s_mixed) (C8.fnScope s_mixed) .none kV_mixed dc_mixed pm_mixed an_mixed cd_mixed ct_mixed), sl_mixed⟩)
    (c_mixed : PySem.W.codeIn K cd_mixed "mixed" = true)
    (k_mixed : PySem.W.keepIn K (.ref f_mixed) = true)
    (a_changed_box : PySem.W.nsIn K mainGlobals "changed_box" = some (some (.ref f_changed_box)))
    (l_changed_box : K.lookup f_changed_box = some ⟨oc_changed_box, od_changed_box, .func (PySem.W.fnOf "changed_box" "changed_box" (C8.fnArgs s_changed_box) (C8.fnBody s_changed_box) (C8.fnScope s_changed_box) .none kV_changed_box dc_changed_box pm_changed_box an_changed_box cd_changed_box ct_changed_box), sl_changed_box⟩)
    (c_changed_box : PySem.W.codeIn K cd_changed_box "changed_box" = true)
    (k_changed_box : PySem.W.keepIn K (.ref f_changed_box) = true)
    (a_cells_in : PySem.W.nsIn K mainGlobals "cells_in" = some (some (.ref f_cells_in)))
    (l_cells_in : K.lookup f_cells_in = some ⟨oc_cells_in, od_cells_in, .func (PySem.W.fnOf "cells_in" "cells_in" (C8.fnArgs s_cells_in) (C8.fnBody s_cells_in) (C8.fnScope s_cells_in) .none kV_cells_in dc_cells_in pm_cells_in an_cells_in cd_cells_in ct_cells_in), sl_cells_in⟩)
    (c_cells_in : PySem.W.codeIn K cd_cells_in "cells_in" = true)
    (k_cells_in : PySem.W.keepIn K (.ref f_cells_in) = true)
    (a_told_of : PySem.W.nsIn K mainGlobals "told_of" = some (some (.ref f_told_of)))
    (l_told_of : K.lookup f_told_of = some ⟨oc_told_of, od_told_of, .func (PySem.W.fnOf "told_of" "told_of" (C8.fnArgs s_told_of) (C8.fnBody s_told_of) (C8.fnScope s_told_of) .none kV_told_of dc_told_of pm_told_of an_told_of cd_told_of ct_told_of), sl_told_of⟩)
    (c_told_of : PySem.W.codeIn K cd_told_of "told_of" = true)
    (k_told_of : PySem.W.keepIn K (.ref f_told_of) = true)
    (a_pasted : PySem.W.nsIn K mainGlobals "pasted" = some (some (.ref f_pasted)))
    (l_pasted : K.lookup f_pasted = some ⟨oc_pasted, od_pasted, .func (PySem.W.fnOf "pasted" "pasted" (C8.fnArgs s_pasted) (C8.fnBody s_pasted) (C8.fnScope s_pasted) .none kV_pasted dc_pasted pm_pasted an_pasted cd_pasted ct_pasted), sl_pasted⟩)
    (c_pasted : PySem.W.codeIn K cd_pasted "pasted" = true)
    (k_pasted : PySem.W.keepIn K (.ref f_pasted) = true)
    (a_is_head : PySem.W.nsIn K mainGlobals "is_head" = some (some (.ref f_is_head)))
    (l_is_head : K.lookup f_is_head = some ⟨oc_is_head, od_is_head, .func (PySem.W.fnOf "is_head" "is_head" (C8.fnArgs s_is_head) (C8.fnBody s_is_head) (C8.fnScope s_is_head) .none kV_is_head dc_is_head pm_is_head an_is_head cd_is_head ct_is_head), sl_is_head⟩)
    (c_is_head : PySem.W.codeIn K cd_is_head "is_head" = true)
    (k_is_head : PySem.W.keepIn K (.ref f_is_head) = true)
    (a_read_from : PySem.W.nsIn K mainGlobals "read_from" = some (some (.ref f_read_from)))
    (l_read_from : K.lookup f_read_from = some ⟨oc_read_from, od_read_from, .func (PySem.W.fnOf "read_from" "read_from" (C8.fnArgs s_read_from) (C8.fnBody s_read_from) (C8.fnScope s_read_from) .none kV_read_from dc_read_from pm_read_from an_read_from cd_read_from ct_read_from), sl_read_from⟩)
    (c_read_from : PySem.W.codeIn K cd_read_from "read_from" = true)
    (k_read_from : PySem.W.keepIn K (.ref f_read_from) = true)
    (a_is_size : PySem.W.nsIn K mainGlobals "is_size" = some (some (.ref f_is_size)))
    (l_is_size : K.lookup f_is_size = some ⟨oc_is_size, od_is_size, .func (PySem.W.fnOf "is_size" "is_size" (C8.fnArgs s_is_size) (C8.fnBody s_is_size) (C8.fnScope s_is_size) .none kV_is_size dc_is_size pm_is_size an_is_size cd_is_size ct_is_size), sl_is_size⟩)
    (c_is_size : PySem.W.codeIn K cd_is_size "is_size" = true)
    (k_is_size : PySem.W.keepIn K (.ref f_is_size) = true)
    (a_page : PySem.W.nsIn K mainGlobals "page" = some (some (.ref f_page)))
    (l_page : K.lookup f_page = some ⟨oc_page, od_page, .func (PySem.W.fnOf "page" "page" (C8.fnArgs s_page) (C8.fnBody s_page) (C8.fnScope s_page) .none kV_page dc_page pm_page an_page cd_page ct_page), sl_page⟩)
    (c_page : PySem.W.codeIn K cd_page "page" = true)
    (k_page : PySem.W.keepIn K (.ref f_page) = true)
    (a_put : PySem.W.nsIn K mainGlobals "put" = some (some (.ref f_put)))
    (l_put : K.lookup f_put = some ⟨oc_put, od_put, .func (PySem.W.fnOf "put" "put" (C8.fnArgs s_put) (C8.fnBody s_put) (C8.fnScope s_put) .none kV_put dc_put pm_put an_put cd_put ct_put), sl_put⟩)
    (c_put : PySem.W.codeIn K cd_put "put" = true)
    (k_put : PySem.W.keepIn K (.ref f_put) = true)
    (a_drop : PySem.W.nsIn K mainGlobals "drop" = some (some (.ref f_drop)))
    (l_drop : K.lookup f_drop = some ⟨oc_drop, od_drop, .func (PySem.W.fnOf "drop" "drop" (C8.fnArgs s_drop) (C8.fnBody s_drop) (C8.fnScope s_drop) .none kV_drop dc_drop pm_drop an_drop cd_drop ct_drop), sl_drop⟩)
    (c_drop : PySem.W.codeIn K cd_drop "drop" = true)
    (k_drop : PySem.W.keepIn K (.ref f_drop) = true)
    (a_box : PySem.W.nsIn K mainGlobals "box" = some (some (.ref f_box)))
    (l_box : K.lookup f_box = some ⟨oc_box, od_box, .func (PySem.W.fnOf "box" "box" (C8.fnArgs s_box) (C8.fnBody s_box) (C8.fnScope s_box) .none kV_box dc_box pm_box an_box cd_box ct_box), sl_box⟩)
    (c_box : PySem.W.codeIn K cd_box "box" = true)
    (k_box : PySem.W.keepIn K (.ref f_box) = true)
    (a_ticks : PySem.W.nsIn K mainGlobals "ticks" = some (some (.ref f_ticks)))
    (l_ticks : K.lookup f_ticks = some ⟨oc_ticks, od_ticks, .func (PySem.W.fnOf "ticks" "ticks" (C8.fnArgs s_ticks) (C8.fnBody s_ticks) (C8.fnScope s_ticks) .none kV_ticks dc_ticks pm_ticks an_ticks cd_ticks ct_ticks), sl_ticks⟩)
    (c_ticks : PySem.W.codeIn K cd_ticks "ticks" = true)
    (k_ticks : PySem.W.keepIn K (.ref f_ticks) = true)
    (a_loop : PySem.W.nsIn K mainGlobals "loop" = some (some (.ref f_loop)))
    (l_loop : K.lookup f_loop = some ⟨oc_loop, od_loop, .func (PySem.W.fnOf "loop" "loop" (C8.fnArgs s_loop) (C8.fnBody s_loop) (C8.fnScope s_loop) .none kV_loop dc_loop pm_loop an_loop cd_loop ct_loop), sl_loop⟩)
    (c_loop : PySem.W.codeIn K cd_loop "loop" = true)
    (k_loop : PySem.W.keepIn K (.ref f_loop) = true)
    (a_turn : PySem.W.nsIn K mainGlobals "turn" = some (some (.ref f_turn)))
    (l_turn : K.lookup f_turn = some ⟨oc_turn, od_turn, .func (PySem.W.fnOf "turn" "turn" (C8.fnArgs s_turn) (C8.fnBody s_turn) (C8.fnScope s_turn) .none kV_turn dc_turn pm_turn an_turn cd_turn ct_turn), sl_turn⟩)
    (c_turn : PySem.W.codeIn K cd_turn "turn" = true)
    (k_turn : PySem.W.keepIn K (.ref f_turn) = true)
    (a_together : PySem.W.nsIn K mainGlobals "together" = some (some (.ref f_together)))
    (l_together : K.lookup f_together = some ⟨oc_together, od_together, .func (PySem.W.fnOf "together" "together" (C8.fnArgs s_together) (C8.fnBody s_together) (C8.fnScope s_together) .none kV_together dc_together pm_together an_together cd_together ct_together), sl_together⟩)
    (c_together : PySem.W.codeIn K cd_together "together" = true)
    (k_together : PySem.W.keepIn K (.ref f_together) = true)
    (a_stretch : PySem.W.nsIn K mainGlobals "stretch" = some (some (.ref f_stretch)))
    (l_stretch : K.lookup f_stretch = some ⟨oc_stretch, od_stretch, .func (PySem.W.fnOf "stretch" "stretch" (C8.fnArgs s_stretch) (C8.fnBody s_stretch) (C8.fnScope s_stretch) .none kV_stretch dc_stretch pm_stretch an_stretch cd_stretch ct_stretch), sl_stretch⟩)
    (c_stretch : PySem.W.codeIn K cd_stretch "stretch" = true)
    (k_stretch : PySem.W.keepIn K (.ref f_stretch) = true)
    (a_bring : PySem.W.nsIn K mainGlobals "bring" = some (some (.ref f_bring)))
    (l_bring : K.lookup f_bring = some ⟨oc_bring, od_bring, .func (PySem.W.fnOf "bring" "bring" (C8.fnArgs s_bring) (C8.fnBody s_bring) (C8.fnScope s_bring) .none kV_bring dc_bring pm_bring an_bring cd_bring ct_bring), sl_bring⟩)
    (c_bring : PySem.W.codeIn K cd_bring "bring" = true)
    (k_bring : PySem.W.keepIn K (.ref f_bring) = true)
    (a_read : PySem.W.nsIn K mainGlobals "read" = some (some (.ref f_read)))
    (l_read : K.lookup f_read = some ⟨oc_read, od_read, .func (PySem.W.fnOf "read" "read" (C8.fnArgs s_read) (C8.fnBody s_read) (C8.fnScope s_read) .none kV_read dc_read pm_read an_read cd_read ct_read), sl_read⟩)
    (c_read : PySem.W.codeIn K cd_read "read" = true)
    (k_read : PySem.W.keepIn K (.ref f_read) = true)
    (a_undo : PySem.W.nsIn K mainGlobals "undo" = some (some (.ref f_undo)))
    (l_undo : K.lookup f_undo = some ⟨oc_undo, od_undo, .func (PySem.W.fnOf "undo" "undo" (C8.fnArgs s_undo) (C8.fnBody s_undo) (C8.fnScope s_undo) .none kV_undo dc_undo pm_undo an_undo cd_undo ct_undo), sl_undo⟩)
    (c_undo : PySem.W.codeIn K cd_undo "undo" = true)
    (k_undo : PySem.W.keepIn K (.ref f_undo) = true)
    (a_shown : PySem.W.nsIn K mainGlobals "shown" = some (some (.ref f_shown)))
    (l_shown : K.lookup f_shown = some ⟨oc_shown, od_shown, .func (PySem.W.fnOf "shown" "shown" (C8.fnArgs s_shown) (C8.fnBody s_shown) (C8.fnScope s_shown) .none kV_shown dc_shown pm_shown an_shown cd_shown ct_shown), sl_shown⟩)
    (c_shown : PySem.W.codeIn K cd_shown "shown" = true)
    (k_shown : PySem.W.keepIn K (.ref f_shown) = true)
    (a_between : PySem.W.nsIn K mainGlobals "between" = some (some (.ref f_between)))
    (l_between : K.lookup f_between = some ⟨oc_between, od_between, .func (PySem.W.fnOf "between" "between" (C8.fnArgs s_between) (C8.fnBody s_between) (C8.fnScope s_between) .none kV_between dc_between pm_between an_between cd_between ct_between), sl_between⟩)
    (c_between : PySem.W.codeIn K cd_between "between" = true)
    (k_between : PySem.W.keepIn K (.ref f_between) = true)
    (a_place : PySem.W.nsIn K mainGlobals "place" = some (some (.ref f_place)))
    (l_place : K.lookup f_place = some ⟨oc_place, od_place, .func (PySem.W.fnOf "place" "place" (C8.fnArgs s_place) (C8.fnBody s_place) (C8.fnScope s_place) .none kV_place dc_place pm_place an_place cd_place ct_place), sl_place⟩)
    (c_place : PySem.W.codeIn K cd_place "place" = true)
    (k_place : PySem.W.keepIn K (.ref f_place) = true)
    (a_told : PySem.W.nsIn K mainGlobals "told" = some (some (.ref f_told)))
    (l_told : K.lookup f_told = some ⟨oc_told, od_told, .func (PySem.W.fnOf "told" "told" (C8.fnArgs s_told) (C8.fnBody s_told) (C8.fnScope s_told) .none kV_told dc_told pm_told an_told cd_told ct_told), sl_told⟩)
    (c_told : PySem.W.codeIn K cd_told "told" = true)
    (k_told : PySem.W.keepIn K (.ref f_told) = true)
    (a_listed : PySem.W.nsIn K mainGlobals "listed" = some (some (.ref f_listed)))
    (l_listed : K.lookup f_listed = some ⟨oc_listed, od_listed, .func (PySem.W.fnOf "listed" "listed" (C8.fnArgs s_listed) (C8.fnBody s_listed) (C8.fnScope s_listed) .none kV_listed dc_listed pm_listed an_listed cd_listed ct_listed), sl_listed⟩)
    (c_listed : PySem.W.codeIn K cd_listed "listed" = true)
    (k_listed : PySem.W.keepIn K (.ref f_listed) = true)
    (a_end_of_call : PySem.W.nsIn K mainGlobals "end_of_call" = some (some (.ref f_end_of_call)))
    (l_end_of_call : K.lookup f_end_of_call = some ⟨oc_end_of_call, od_end_of_call, .func (PySem.W.fnOf "end_of_call" "end_of_call" (C8.fnArgs s_end_of_call) (C8.fnBody s_end_of_call) (C8.fnScope s_end_of_call) .none kV_end_of_call dc_end_of_call pm_end_of_call an_end_of_call cd_end_of_call ct_end_of_call), sl_end_of_call⟩)
    (c_end_of_call : PySem.W.codeIn K cd_end_of_call "end_of_call" = true)
    (k_end_of_call : PySem.W.keepIn K (.ref f_end_of_call) = true)
    (a_answer_calls : PySem.W.nsIn K mainGlobals "answer_calls" = some (some (.ref f_answer_calls)))
    (l_answer_calls : K.lookup f_answer_calls = some ⟨oc_answer_calls, od_answer_calls, .func (PySem.W.fnOf "answer_calls" "answer_calls" (C8.fnArgs s_answer_calls) (C8.fnBody s_answer_calls) (C8.fnScope s_answer_calls) .none kV_answer_calls dc_answer_calls pm_answer_calls an_answer_calls cd_answer_calls ct_answer_calls), sl_answer_calls⟩)
    (c_answer_calls : PySem.W.codeIn K cd_answer_calls "answer_calls" = true)
    (k_answer_calls : PySem.W.keepIn K (.ref f_answer_calls) = true)
    (a_answers : PySem.W.nsIn K mainGlobals "answers" = some (some (.ref f_answers)))
    (l_answers : K.lookup f_answers = some ⟨oc_answers, od_answers, .func (PySem.W.fnOf "answers" "answers" (C8.fnArgs s_answers) (C8.fnBody s_answers) (C8.fnScope s_answers) .none kV_answers dc_answers pm_answers an_answers cd_answers ct_answers), sl_answers⟩)
    (c_answers : PySem.W.codeIn K cd_answers "answers" = true)
    (k_answers : PySem.W.keepIn K (.ref f_answers) = true)
    (b_any : PySem.W.nsIn K mainGlobals "any" = some none)
    (b_enumerate : PySem.W.nsIn K mainGlobals "enumerate" = some none)
    (b_len : PySem.W.nsIn K mainGlobals "len" = some none)
    (b_list : PySem.W.nsIn K mainGlobals "list" = some none)
    (b_max : PySem.W.nsIn K mainGlobals "max" = some none)
    (b_min : PySem.W.nsIn K mainGlobals "min" = some none)
    (b_range : PySem.W.nsIn K mainGlobals "range" = some none)
    (b_reversed : PySem.W.nsIn K mainGlobals "reversed" = some none)
    (b_sum : PySem.W.nsIn K mainGlobals "sum" = some none)
    (b_zip : PySem.W.nsIn K mainGlobals "zip" = some none)
    (v_MOST_TICKS : PySem.W.nsIn K mainGlobals "MOST_TICKS" = some (some (.int 1000 t_MOST_TICKS)))
    (v_MOST_NUMBER : PySem.W.nsIn K mainGlobals "MOST_NUMBER" = some (some (.int 255 t_MOST_NUMBER)))
    (v_STAYS : PySem.W.nsIn K mainGlobals "STAYS" = some (some (.int 0 t_STAYS)))
    (v_GOES_ROUND : PySem.W.nsIn K mainGlobals "GOES_ROUND" = some (some (.int 1 t_GOES_ROUND)))
    (v_THERE_AND_BACK : PySem.W.nsIn K mainGlobals "THERE_AND_BACK" = some (some (.int 2 t_THERE_AND_BACK)))
    (v_HEAD : PySem.W.nsIn K mainGlobals "HEAD" = some (some (.int 5 t_HEAD)))
    (v_MOST_SIDE : PySem.W.nsIn K mainGlobals "MOST_SIDE" = some (some (.int 6 t_MOST_SIDE)))
    (v_MOST_FRAMES : PySem.W.nsIn K mainGlobals "MOST_FRAMES" = some (some (.int 12 t_MOST_FRAMES)))
    (v_MOST_UNDONE : PySem.W.nsIn K mainGlobals "MOST_UNDONE" = some (some (.int 8 t_MOST_UNDONE)))
    (v_BAD_SIZE : PySem.W.nsIn K mainGlobals "BAD_SIZE" = some (some (.int (-1) t_BAD_SIZE)))
    (v_NO_FRAME : PySem.W.nsIn K mainGlobals "NO_FRAME" = some (some (.int (-2) t_NO_FRAME)))
    (v_BAD_NUMBER : PySem.W.nsIn K mainGlobals "BAD_NUMBER" = some (some (.int (-3) t_BAD_NUMBER)))
    (v_NOTHING_TO_UNDO : PySem.W.nsIn K mainGlobals "NOTHING_TO_UNDO" = some (some (.int (-4) t_NOTHING_TO_UNDO)))
    (v_BAD_FRAME_COUNT : PySem.W.nsIn K mainGlobals "BAD_FRAME_COUNT" = some (some (.int (-5) t_BAD_FRAME_COUNT)))
    (v_BAD_TICKS : PySem.W.nsIn K mainGlobals "BAD_TICKS" = some (some (.int (-6) t_BAD_TICKS)))
    (v_READ : PySem.W.nsIn K mainGlobals "READ" = some (some (.int 10 t_READ)))
    (v_CALLS : PySem.W.nsIn K mainGlobals "CALLS" = some (some (.ref tc_CALLS)))
    (lt_CALLS : K.lookup tc_CALLS = some ⟨.type "tuple", odt_CALLS, .seq #[.ref r_CALLS_0, .ref r_CALLS_1, .ref r_CALLS_2, .ref r_CALLS_3, .ref r_CALLS_4, .ref r_CALLS_5, .ref r_CALLS_6, .ref r_CALLS_7, .ref r_CALLS_8, .ref r_CALLS_9, .ref r_CALLS_10, .ref r_CALLS_11, .ref r_CALLS_12, .ref r_CALLS_13, .ref r_CALLS_14, .ref r_CALLS_15, .ref r_CALLS_16] nt_CALLS, slt_CALLS⟩)
    (lr_CALLS_0 : K.lookup r_CALLS_0 = some ⟨.type "tuple", odr_CALLS_0, .seq #[.ref f_page, .int 2 tk_CALLS_0_1] nr_CALLS_0, slr_CALLS_0⟩)
    (lr_CALLS_1 : K.lookup r_CALLS_1 = some ⟨.type "tuple", odr_CALLS_1, .seq #[.ref f_put, .int 1 tk_CALLS_1_1] nr_CALLS_1, slr_CALLS_1⟩)
    (lr_CALLS_2 : K.lookup r_CALLS_2 = some ⟨.type "tuple", odr_CALLS_2, .seq #[.ref f_drop, .int 1 tk_CALLS_2_1] nr_CALLS_2, slr_CALLS_2⟩)
    (lr_CALLS_3 : K.lookup r_CALLS_3 = some ⟨.type "tuple", odr_CALLS_3, .seq #[.ref f_box, .int 6 tk_CALLS_3_1] nr_CALLS_3, slr_CALLS_3⟩)
    (lr_CALLS_4 : K.lookup r_CALLS_4 = some ⟨.type "tuple", odr_CALLS_4, .seq #[.ref f_ticks, .int 2 tk_CALLS_4_1] nr_CALLS_4, slr_CALLS_4⟩)
    (lr_CALLS_5 : K.lookup r_CALLS_5 = some ⟨.type "tuple", odr_CALLS_5, .seq #[.ref f_loop, .int 1 tk_CALLS_5_1] nr_CALLS_5, slr_CALLS_5⟩)
    (lr_CALLS_6 : K.lookup r_CALLS_6 = some ⟨.type "tuple", odr_CALLS_6, .seq #[.ref f_turn, .int 0 tk_CALLS_6_1] nr_CALLS_6, slr_CALLS_6⟩)
    (lr_CALLS_7 : K.lookup r_CALLS_7 = some ⟨.type "tuple", odr_CALLS_7, .seq #[.ref f_together, .int 0 tk_CALLS_7_1] nr_CALLS_7, slr_CALLS_7⟩)
    (lr_CALLS_8 : K.lookup r_CALLS_8 = some ⟨.type "tuple", odr_CALLS_8, .seq #[.ref f_stretch, .int 2 tk_CALLS_8_1] nr_CALLS_8, slr_CALLS_8⟩)
    (lr_CALLS_9 : K.lookup r_CALLS_9 = some ⟨.type "tuple", odr_CALLS_9, .seq #[.ref f_bring, .int 1 tk_CALLS_9_1] nr_CALLS_9, slr_CALLS_9⟩)
    (lr_CALLS_10 : K.lookup r_CALLS_10 = some ⟨.type "tuple", odr_CALLS_10, .seq #[.ref f_read, .int 3 tk_CALLS_10_1] nr_CALLS_10, slr_CALLS_10⟩)
    (lr_CALLS_11 : K.lookup r_CALLS_11 = some ⟨.type "tuple", odr_CALLS_11, .seq #[.ref f_undo, .int 0 tk_CALLS_11_1] nr_CALLS_11, slr_CALLS_11⟩)
    (lr_CALLS_12 : K.lookup r_CALLS_12 = some ⟨.type "tuple", odr_CALLS_12, .seq #[.ref f_shown, .int 1 tk_CALLS_12_1] nr_CALLS_12, slr_CALLS_12⟩)
    (lr_CALLS_13 : K.lookup r_CALLS_13 = some ⟨.type "tuple", odr_CALLS_13, .seq #[.ref f_between, .int 1 tk_CALLS_13_1] nr_CALLS_13, slr_CALLS_13⟩)
    (lr_CALLS_14 : K.lookup r_CALLS_14 = some ⟨.type "tuple", odr_CALLS_14, .seq #[.ref f_place, .int 1 tk_CALLS_14_1] nr_CALLS_14, slr_CALLS_14⟩)
    (lr_CALLS_15 : K.lookup r_CALLS_15 = some ⟨.type "tuple", odr_CALLS_15, .seq #[.ref f_told, .int 0 tk_CALLS_15_1] nr_CALLS_15, slr_CALLS_15⟩)
    (lr_CALLS_16 : K.lookup r_CALLS_16 = some ⟨.type "tuple", odr_CALLS_16, .seq #[.ref f_listed, .int 0 tk_CALLS_16_1] nr_CALLS_16, slr_CALLS_16⟩) :
    ∃ fd : FuncData, (∀ (s : Shared) (us : List Value), us.length = (["calls"] : List Str).length → BindsTo s fd ⟨us, []⟩ ((["calls"] : List Str).zip us)) ∧ ∀ base : Heap, K.In base → base.Ns mainGlobals mg → FnOk P w K mg base C8.CX0 6 fa fd ["calls"] (spAns K) := by
  have same : f_answers = fa := by
    have z := (PySem.W.mg_of X G a_answers).symm.trans hfa
    cases z
    rfl
  subst same
  have T : Txt mg := ⟨PySem.W.mg_none_of X G b_any, PySem.W.mg_none_of X G b_enumerate, PySem.W.mg_none_of X G b_len, PySem.W.mg_none_of X G b_list, PySem.W.mg_none_of X G b_max, PySem.W.mg_none_of X G b_min, PySem.W.mg_none_of X G b_range, PySem.W.mg_none_of X G b_reversed, PySem.W.mg_none_of X G b_sum, PySem.W.mg_none_of X G b_zip, ⟨_, PySem.W.mg_of X G v_MOST_TICKS, ⟨_, rfl⟩⟩, ⟨_, PySem.W.mg_of X G v_MOST_NUMBER, ⟨_, rfl⟩⟩, ⟨_, PySem.W.mg_of X G v_STAYS, ⟨_, rfl⟩⟩, ⟨_, PySem.W.mg_of X G v_GOES_ROUND, ⟨_, rfl⟩⟩, ⟨_, PySem.W.mg_of X G v_THERE_AND_BACK, ⟨_, rfl⟩⟩, ⟨_, PySem.W.mg_of X G v_HEAD, ⟨_, rfl⟩⟩, ⟨_, PySem.W.mg_of X G v_MOST_SIDE, ⟨_, rfl⟩⟩, ⟨_, PySem.W.mg_of X G v_MOST_FRAMES, ⟨_, rfl⟩⟩, ⟨_, PySem.W.mg_of X G v_MOST_UNDONE, ⟨_, rfl⟩⟩, ⟨_, PySem.W.mg_of X G v_BAD_SIZE, ⟨_, rfl⟩⟩, ⟨_, PySem.W.mg_of X G v_NO_FRAME, ⟨_, rfl⟩⟩, ⟨_, PySem.W.mg_of X G v_BAD_NUMBER, ⟨_, rfl⟩⟩, ⟨_, PySem.W.mg_of X G v_NOTHING_TO_UNDO, ⟨_, rfl⟩⟩, ⟨_, PySem.W.mg_of X G v_BAD_FRAME_COUNT, ⟨_, rfl⟩⟩, ⟨_, PySem.W.mg_of X G v_BAD_TICKS, ⟨_, rfl⟩⟩, ⟨_, PySem.W.mg_of X G v_READ, ⟨_, rfl⟩⟩⟩
  have L : Cla K C := ⟨⟨pg, hd, po, sa⟩, n_width, n_height, n_goes_on, n_frames, n_past⟩
  obtain ⟨fd_init, F_init, B_init⟩ := fun_in (st := s_init) (ps := ["self"]) l_init c_init fun _ _ _ _ _ _ us hl => match us, hl with | [_], _ => rfl
  have M_init : Mk K C f_init := ⟨mk_, a_init, i_init, kc⟩
  obtain ⟨fd_begin, F_begin, B_begin⟩ := fun_in (st := s_begin) (ps := ["self", "width", "height"]) l_begin c_begin fun _ _ _ _ _ _ us hl => match us, hl with | [_, _, _], _ => rfl
  have M_begin : Meth K C "begin" f_begin := ⟨a_begin, i_begin, k_begin⟩
  obtain ⟨fd_remember, F_remember, B_remember⟩ := fun_in (st := s_remember) (ps := ["self"]) l_remember c_remember fun _ _ _ _ _ _ us hl => match us, hl with | [_], _ => rfl
  have M_remember : Meth K C "remember" f_remember := ⟨a_remember, i_remember, k_remember⟩
  obtain ⟨fd_extent, F_extent, B_extent⟩ := fun_in (st := s_extent) (ps := ["self"]) l_extent c_extent fun _ _ _ _ _ _ us hl => match us, hl with | [_], _ => rfl
  have M_extent : Meth K C "extent" f_extent := ⟨a_extent, i_extent, k_extent⟩
  obtain ⟨fd_change_frames, F_change_frames, B_change_frames⟩ := fun_in (st := s_change_frames) (ps := ["self", "frames"]) l_change_frames c_change_frames fun _ _ _ _ _ _ us hl => match us, hl with | [_, _], _ => rfl
  have M_change_frames : Meth K C "change_frames" f_change_frames := ⟨a_change_frames, i_change_frames, k_change_frames⟩
  obtain ⟨fd_change_goes_on, F_change_goes_on, B_change_goes_on⟩ := fun_in (st := s_change_goes_on) (ps := ["self", "goes_on"]) l_change_goes_on c_change_goes_on fun _ _ _ _ _ _ us hl => match us, hl with | [_, _], _ => rfl
  have M_change_goes_on : Meth K C "change_goes_on" f_change_goes_on := ⟨a_change_goes_on, i_change_goes_on, k_change_goes_on⟩
  obtain ⟨fd_change_size, F_change_size, B_change_size⟩ := fun_in (st := s_change_size) (ps := ["self", "width", "height", "frames"]) l_change_size c_change_size fun _ _ _ _ _ _ us hl => match us, hl with | [_, _, _, _], _ => rfl
  have M_change_size : Meth K C "change_size" f_change_size := ⟨a_change_size, i_change_size, k_change_size⟩
  obtain ⟨fd_go_back, F_go_back, B_go_back⟩ := fun_in (st := s_go_back) (ps := ["self"]) l_go_back c_go_back fun _ _ _ _ _ _ us hl => match us, hl with | [_], _ => rfl
  have M_go_back : Meth K C "go_back" f_go_back := ⟨a_go_back, i_go_back, k_go_back⟩
  obtain ⟨fd_has_frame, F_has_frame, B_has_frame⟩ := fun_in (st := s_has_frame) (ps := ["self", "i"]) l_has_frame c_has_frame fun _ _ _ _ _ _ us hl => match us, hl with | [_, _], _ => rfl
  have M_has_frame : Meth K C "has_frame" f_has_frame := ⟨a_has_frame, i_has_frame, k_has_frame⟩
  obtain ⟨fd_place_at, F_place_at, B_place_at⟩ := fun_in (st := s_place_at) (ps := ["self", "tick"]) l_place_at c_place_at fun _ _ _ _ _ _ us hl => match us, hl with | [_, _], _ => rfl
  have M_place_at : Meth K C "place_at" f_place_at := ⟨a_place_at, i_place_at, k_place_at⟩
  obtain ⟨fd_blank_cells, F_blank_cells, B_blank_cells⟩ := fun_in (st := s_blank_cells) (ps := ["width", "height"]) l_blank_cells c_blank_cells fun _ _ _ _ _ _ us hl => match us, hl with | [_, _], _ => rfl
  have d_blank_cells : C8.Def K mg "blank_cells" s_blank_cells f_blank_cells fd_blank_cells := ⟨F_blank_cells, PySem.W.mg_of X G a_blank_cells, k_blank_cells⟩
  obtain ⟨fd_blank_frame, F_blank_frame, B_blank_frame⟩ := fun_in (st := s_blank_frame) (ps := ["width", "height"]) l_blank_frame c_blank_frame fun _ _ _ _ _ _ us hl => match us, hl with | [_, _], _ => rfl
  have d_blank_frame : C8.Def K mg "blank_frame" s_blank_frame f_blank_frame fd_blank_frame := ⟨F_blank_frame, PySem.W.mg_of X G a_blank_frame, k_blank_frame⟩
  obtain ⟨fd_all_ticks, F_all_ticks, B_all_ticks⟩ := fun_in (st := s_all_ticks) (ps := ["frames"]) l_all_ticks c_all_ticks fun _ _ _ _ _ _ us hl => match us, hl with | [_], _ => rfl
  have d_all_ticks : C8.Def K mg "all_ticks" s_all_ticks f_all_ticks fd_all_ticks := ⟨F_all_ticks, PySem.W.mg_of X G a_all_ticks, k_all_ticks⟩
  obtain ⟨fd_doubled, F_doubled, B_doubled⟩ := fun_in (st := s_doubled) (ps := ["frames", "i"]) l_doubled c_doubled fun _ _ _ _ _ _ us hl => match us, hl with | [_, _], _ => rfl
  have d_doubled : C8.Def K mg "doubled" s_doubled f_doubled fd_doubled := ⟨F_doubled, PySem.W.mg_of X G a_doubled, k_doubled⟩
  obtain ⟨fd_without, F_without, B_without⟩ := fun_in (st := s_without) (ps := ["frames", "i"]) l_without c_without fun _ _ _ _ _ _ us hl => match us, hl with | [_, _], _ => rfl
  have d_without : C8.Def K mg "without" s_without f_without fd_without := ⟨F_without, PySem.W.mg_of X G a_without, k_without⟩
  obtain ⟨fd_replaced, F_replaced, B_replaced⟩ := fun_in (st := s_replaced) (ps := ["frames", "i", "frame"]) l_replaced c_replaced fun _ _ _ _ _ _ us hl => match us, hl with | [_, _, _], _ => rfl
  have d_replaced : C8.Def K mg "replaced" s_replaced f_replaced fd_replaced := ⟨F_replaced, PySem.W.mg_of X G a_replaced, k_replaced⟩
  obtain ⟨fd_in_box, F_in_box, B_in_box⟩ := fun_in (st := s_in_box) (ps := ["box", "column", "row"]) l_in_box c_in_box fun _ _ _ _ _ _ us hl => match us, hl with | [_, _, _], _ => rfl
  have d_in_box : C8.Def K mg "in_box" s_in_box f_in_box fd_in_box := ⟨F_in_box, PySem.W.mg_of X G a_in_box, k_in_box⟩
  obtain ⟨fd_filled, F_filled, B_filled⟩ := fun_in (st := s_filled) (ps := ["cells", "width", "box", "number"]) l_filled c_filled fun _ _ _ _ _ _ us hl => match us, hl with | [_, _, _, _], _ => rfl
  have d_filled : C8.Def K mg "filled" s_filled f_filled fd_filled := ⟨F_filled, PySem.W.mg_of X G a_filled, k_filled⟩
  obtain ⟨fd_put_together, F_put_together, B_put_together⟩ := fun_in (st := s_put_together) (ps := ["frames"]) l_put_together c_put_together fun _ _ _ _ _ _ us hl => match us, hl with | [_], _ => rfl
  have d_put_together : C8.Def K mg "put_together" s_put_together f_put_together fd_put_together := ⟨F_put_together, PySem.W.mg_of X G a_put_together, k_put_together⟩
  obtain ⟨fd_cut_out, F_cut_out, B_cut_out⟩ := fun_in (st := s_cut_out) (ps := ["frames", "first", "count"]) l_cut_out c_cut_out fun _ _ _ _ _ _ us hl => match us, hl with | [_, _, _], _ => rfl
  have d_cut_out : C8.Def K mg "cut_out" s_cut_out f_cut_out fd_cut_out := ⟨F_cut_out, PySem.W.mg_of X G a_cut_out, k_cut_out⟩
  obtain ⟨fd_nearest, F_nearest, B_nearest⟩ := fun_in (st := s_nearest) (ps := ["number", "parts"]) l_nearest c_nearest fun _ _ _ _ _ _ us hl => match us, hl with | [_, _], _ => rfl
  have d_nearest : C8.Def K mg "nearest" s_nearest f_nearest fd_nearest := ⟨F_nearest, PySem.W.mg_of X G a_nearest, k_nearest⟩
  obtain ⟨fd_brought, F_brought, B_brought⟩ := fun_in (st := s_brought) (ps := ["frames", "length"]) l_brought c_brought fun _ _ _ _ _ _ us hl => match us, hl with | [_, _], _ => rfl
  have d_brought : C8.Def K mg "brought" s_brought f_brought fd_brought := ⟨F_brought, PySem.W.mg_of X G a_brought, k_brought⟩
  obtain ⟨fd_own_tick, F_own_tick, B_own_tick⟩ := fun_in (st := s_own_tick) (ps := ["tick", "length", "goes_on"]) l_own_tick c_own_tick fun _ _ _ _ _ _ us hl => match us, hl with | [_, _, _], _ => rfl
  have d_own_tick : C8.Def K mg "own_tick" s_own_tick f_own_tick fd_own_tick := ⟨F_own_tick, PySem.W.mg_of X G a_own_tick, k_own_tick⟩
  obtain ⟨fd_place_of, F_place_of, B_place_of⟩ := fun_in (st := s_place_of) (ps := ["frames", "tick"]) l_place_of c_place_of fun _ _ _ _ _ _ us hl => match us, hl with | [_, _], _ => rfl
  have d_place_of : C8.Def K mg "place_of" s_place_of f_place_of fd_place_of := ⟨F_place_of, PySem.W.mg_of X G a_place_of, k_place_of⟩
  obtain ⟨fd_frame_behind, F_frame_behind, B_frame_behind⟩ := fun_in (st := s_frame_behind) (ps := ["frames", "i", "goes_on"]) l_frame_behind c_frame_behind fun _ _ _ _ _ _ us hl => match us, hl with | [_, _, _], _ => rfl
  have d_frame_behind : C8.Def K mg "frame_behind" s_frame_behind f_frame_behind fd_frame_behind := ⟨F_frame_behind, PySem.W.mg_of X G a_frame_behind, k_frame_behind⟩
  obtain ⟨fd_mixed, F_mixed, B_mixed⟩ := fun_in (st := s_mixed) (ps := ["frame", "cells", "into"]) l_mixed c_mixed fun _ _ _ _ _ _ us hl => match us, hl with | [_, _, _], _ => rfl
  have d_mixed : C8.Def K mg "mixed" s_mixed f_mixed fd_mixed := ⟨F_mixed, PySem.W.mg_of X G a_mixed, k_mixed⟩
  obtain ⟨fd_changed_box, F_changed_box, B_changed_box⟩ := fun_in (st := s_changed_box) (ps := ["before", "cells", "width"]) l_changed_box c_changed_box fun _ _ _ _ _ _ us hl => match us, hl with | [_, _, _], _ => rfl
  have d_changed_box : C8.Def K mg "changed_box" s_changed_box f_changed_box fd_changed_box := ⟨F_changed_box, PySem.W.mg_of X G a_changed_box, k_changed_box⟩
  obtain ⟨fd_cells_in, F_cells_in, B_cells_in⟩ := fun_in (st := s_cells_in) (ps := ["cells", "width", "box"]) l_cells_in c_cells_in fun _ _ _ _ _ _ us hl => match us, hl with | [_, _, _], _ => rfl
  have d_cells_in : C8.Def K mg "cells_in" s_cells_in f_cells_in fd_cells_in := ⟨F_cells_in, PySem.W.mg_of X G a_cells_in, k_cells_in⟩
  obtain ⟨fd_told_of, F_told_of, B_told_of⟩ := fun_in (st := s_told_of) (ps := ["frames", "width"]) l_told_of c_told_of fun _ _ _ _ _ _ us hl => match us, hl with | [_, _], _ => rfl
  have d_told_of : C8.Def K mg "told_of" s_told_of f_told_of fd_told_of := ⟨F_told_of, PySem.W.mg_of X G a_told_of, k_told_of⟩
  obtain ⟨fd_pasted, F_pasted, B_pasted⟩ := fun_in (st := s_pasted) (ps := ["cells", "width", "box", "numbers"]) l_pasted c_pasted fun _ _ _ _ _ _ us hl => match us, hl with | [_, _, _, _], _ => rfl
  have d_pasted : C8.Def K mg "pasted" s_pasted f_pasted fd_pasted := ⟨F_pasted, PySem.W.mg_of X G a_pasted, k_pasted⟩
  obtain ⟨fd_is_head, F_is_head, B_is_head⟩ := fun_in (st := s_is_head) (ps := ["head", "width", "height"]) l_is_head c_is_head fun _ _ _ _ _ _ us hl => match us, hl with | [_, _, _], _ => rfl
  have d_is_head : C8.Def K mg "is_head" s_is_head f_is_head fd_is_head := ⟨F_is_head, PySem.W.mg_of X G a_is_head, k_is_head⟩
  obtain ⟨fd_read_from, F_read_from, B_read_from⟩ := fun_in (st := s_read_from) (ps := ["numbers", "width", "height"]) l_read_from c_read_from fun _ _ _ _ _ _ us hl => match us, hl with | [_, _, _], _ => rfl
  have d_read_from : C8.Def K mg "read_from" s_read_from f_read_from fd_read_from := ⟨F_read_from, PySem.W.mg_of X G a_read_from, k_read_from⟩
  obtain ⟨fd_is_size, F_is_size, B_is_size⟩ := fun_in (st := s_is_size) (ps := ["width", "height"]) l_is_size c_is_size fun _ _ _ _ _ _ us hl => match us, hl with | [_, _], _ => rfl
  have d_is_size : C8.Def K mg "is_size" s_is_size f_is_size fd_is_size := ⟨F_is_size, PySem.W.mg_of X G a_is_size, k_is_size⟩
  obtain ⟨fd_page, F_page, B_page⟩ := fun_in (st := s_page) (ps := ["film", "given"]) l_page c_page fun _ _ _ _ _ _ us hl => match us, hl with | [_, _], _ => rfl
  have d_page : C8.Def K mg "page" s_page f_page fd_page := ⟨F_page, PySem.W.mg_of X G a_page, k_page⟩
  obtain ⟨fd_put, F_put, B_put⟩ := fun_in (st := s_put) (ps := ["film", "given"]) l_put c_put fun _ _ _ _ _ _ us hl => match us, hl with | [_, _], _ => rfl
  have d_put : C8.Def K mg "put" s_put f_put fd_put := ⟨F_put, PySem.W.mg_of X G a_put, k_put⟩
  obtain ⟨fd_drop, F_drop, B_drop⟩ := fun_in (st := s_drop) (ps := ["film", "given"]) l_drop c_drop fun _ _ _ _ _ _ us hl => match us, hl with | [_, _], _ => rfl
  have d_drop : C8.Def K mg "drop" s_drop f_drop fd_drop := ⟨F_drop, PySem.W.mg_of X G a_drop, k_drop⟩
  obtain ⟨fd_box, F_box, B_box⟩ := fun_in (st := s_box) (ps := ["film", "given"]) l_box c_box fun _ _ _ _ _ _ us hl => match us, hl with | [_, _], _ => rfl
  have d_box : C8.Def K mg "box" s_box f_box fd_box := ⟨F_box, PySem.W.mg_of X G a_box, k_box⟩
  obtain ⟨fd_ticks, F_ticks, B_ticks⟩ := fun_in (st := s_ticks) (ps := ["film", "given"]) l_ticks c_ticks fun _ _ _ _ _ _ us hl => match us, hl with | [_, _], _ => rfl
  have d_ticks : C8.Def K mg "ticks" s_ticks f_ticks fd_ticks := ⟨F_ticks, PySem.W.mg_of X G a_ticks, k_ticks⟩
  obtain ⟨fd_loop, F_loop, B_loop⟩ := fun_in (st := s_loop) (ps := ["film", "given"]) l_loop c_loop fun _ _ _ _ _ _ us hl => match us, hl with | [_, _], _ => rfl
  have d_loop : C8.Def K mg "loop" s_loop f_loop fd_loop := ⟨F_loop, PySem.W.mg_of X G a_loop, k_loop⟩
  obtain ⟨fd_turn, F_turn, B_turn⟩ := fun_in (st := s_turn) (ps := ["film", "given"]) l_turn c_turn fun _ _ _ _ _ _ us hl => match us, hl with | [_, _], _ => rfl
  have d_turn : C8.Def K mg "turn" s_turn f_turn fd_turn := ⟨F_turn, PySem.W.mg_of X G a_turn, k_turn⟩
  obtain ⟨fd_together, F_together, B_together⟩ := fun_in (st := s_together) (ps := ["film", "given"]) l_together c_together fun _ _ _ _ _ _ us hl => match us, hl with | [_, _], _ => rfl
  have d_together : C8.Def K mg "together" s_together f_together fd_together := ⟨F_together, PySem.W.mg_of X G a_together, k_together⟩
  obtain ⟨fd_stretch, F_stretch, B_stretch⟩ := fun_in (st := s_stretch) (ps := ["film", "given"]) l_stretch c_stretch fun _ _ _ _ _ _ us hl => match us, hl with | [_, _], _ => rfl
  have d_stretch : C8.Def K mg "stretch" s_stretch f_stretch fd_stretch := ⟨F_stretch, PySem.W.mg_of X G a_stretch, k_stretch⟩
  obtain ⟨fd_bring, F_bring, B_bring⟩ := fun_in (st := s_bring) (ps := ["film", "given"]) l_bring c_bring fun _ _ _ _ _ _ us hl => match us, hl with | [_, _], _ => rfl
  have d_bring : C8.Def K mg "bring" s_bring f_bring fd_bring := ⟨F_bring, PySem.W.mg_of X G a_bring, k_bring⟩
  obtain ⟨fd_read, F_read, B_read⟩ := fun_in (st := s_read) (ps := ["film", "given"]) l_read c_read fun _ _ _ _ _ _ us hl => match us, hl with | [_, _], _ => rfl
  have d_read : C8.Def K mg "read" s_read f_read fd_read := ⟨F_read, PySem.W.mg_of X G a_read, k_read⟩
  obtain ⟨fd_undo, F_undo, B_undo⟩ := fun_in (st := s_undo) (ps := ["film", "given"]) l_undo c_undo fun _ _ _ _ _ _ us hl => match us, hl with | [_, _], _ => rfl
  have d_undo : C8.Def K mg "undo" s_undo f_undo fd_undo := ⟨F_undo, PySem.W.mg_of X G a_undo, k_undo⟩
  obtain ⟨fd_shown, F_shown, B_shown⟩ := fun_in (st := s_shown) (ps := ["film", "given"]) l_shown c_shown fun _ _ _ _ _ _ us hl => match us, hl with | [_, _], _ => rfl
  have d_shown : C8.Def K mg "shown" s_shown f_shown fd_shown := ⟨F_shown, PySem.W.mg_of X G a_shown, k_shown⟩
  obtain ⟨fd_between, F_between, B_between⟩ := fun_in (st := s_between) (ps := ["film", "given"]) l_between c_between fun _ _ _ _ _ _ us hl => match us, hl with | [_, _], _ => rfl
  have d_between : C8.Def K mg "between" s_between f_between fd_between := ⟨F_between, PySem.W.mg_of X G a_between, k_between⟩
  obtain ⟨fd_place, F_place, B_place⟩ := fun_in (st := s_place) (ps := ["film", "given"]) l_place c_place fun _ _ _ _ _ _ us hl => match us, hl with | [_, _], _ => rfl
  have d_place : C8.Def K mg "place" s_place f_place fd_place := ⟨F_place, PySem.W.mg_of X G a_place, k_place⟩
  obtain ⟨fd_told, F_told, B_told⟩ := fun_in (st := s_told) (ps := ["film", "given"]) l_told c_told fun _ _ _ _ _ _ us hl => match us, hl with | [_, _], _ => rfl
  have d_told : C8.Def K mg "told" s_told f_told fd_told := ⟨F_told, PySem.W.mg_of X G a_told, k_told⟩
  obtain ⟨fd_listed, F_listed, B_listed⟩ := fun_in (st := s_listed) (ps := ["film", "given"]) l_listed c_listed fun _ _ _ _ _ _ us hl => match us, hl with | [_, _], _ => rfl
  have d_listed : C8.Def K mg "listed" s_listed f_listed fd_listed := ⟨F_listed, PySem.W.mg_of X G a_listed, k_listed⟩
  obtain ⟨fd_end_of_call, F_end_of_call, B_end_of_call⟩ := fun_in (st := s_end_of_call) (ps := ["calls", "at"]) l_end_of_call c_end_of_call fun _ _ _ _ _ _ us hl => match us, hl with | [_, _], _ => rfl
  have d_end_of_call : C8.Def K mg "end_of_call" s_end_of_call f_end_of_call fd_end_of_call := ⟨F_end_of_call, PySem.W.mg_of X G a_end_of_call, k_end_of_call⟩
  obtain ⟨fd_answer_calls, F_answer_calls, B_answer_calls⟩ := fun_in (st := s_answer_calls) (ps := ["film", "calls"]) l_answer_calls c_answer_calls fun _ _ _ _ _ _ us hl => match us, hl with | [_, _], _ => rfl
  have d_answer_calls : C8.Def K mg "answer_calls" s_answer_calls f_answer_calls fd_answer_calls := ⟨F_answer_calls, PySem.W.mg_of X G a_answer_calls, k_answer_calls⟩
  obtain ⟨fd_answers, F_answers, B_answers⟩ := fun_in (st := s_answers) (ps := ["calls"]) l_answers c_answers fun _ _ _ _ _ _ us hl => match us, hl with | [_], _ => rfl
  have d_answers : C8.Def K mg "answers" s_answers f_answers fd_answers := ⟨F_answers, PySem.W.mg_of X G a_answers, k_answers⟩
  have F_main : C8.Fun K "answers" "answers" s_answers f_answers (PySem.W.fnOf "answers" "answers" (C8.fnArgs s_answers) (C8.fnBody s_answers) (C8.fnScope s_answers) .none kV_answers dc_answers pm_answers an_answers cd_answers ct_answers) := ⟨oc_answers, od_answers, .none, kV_answers, dc_answers, pm_answers, an_answers, cd_answers, ct_answers, sl_answers, rfl, l_answers, c_answers⟩
  refine ⟨PySem.W.fnOf "answers" "answers" (C8.fnArgs s_answers) (C8.fnBody s_answers) (C8.fnScope s_answers) .none kV_answers dc_answers pm_answers an_answers cd_answers ct_answers, fun s us hu => match us, hu with | [_], _ => .of_eq rfl, fun base _ _ => ?_⟩
  have c_blank_cells := ok_blank_cells (P := P) (w := w) (base := base) T d_blank_cells B_blank_cells
  have c_blank_frame := ok_blank_frame T c_blank_cells d_blank_frame B_blank_frame
  have c_all_ticks := ok_all_ticks (P := P) (w := w) (base := base) T d_all_ticks B_all_ticks
  have c_doubled := ok_doubled (P := P) (w := w) (base := base) T d_doubled B_doubled
  have c_without := ok_without (P := P) (w := w) (base := base) T d_without B_without
  have c_replaced := ok_replaced (P := P) (w := w) (base := base) T d_replaced B_replaced
  have c_in_box := ok_in_box (P := P) (w := w) (base := base) T d_in_box B_in_box
  have c_filled := ok_filled T c_in_box d_filled B_filled
  have c_put_together := ok_put_together (P := P) (w := w) (base := base) T d_put_together B_put_together
  have c_cut_out := ok_cut_out (P := P) (w := w) (base := base) T d_cut_out B_cut_out
  have c_nearest := ok_nearest (P := P) (w := w) (base := base) T d_nearest B_nearest
  have c_brought := ok_brought T c_all_ticks c_nearest d_brought B_brought
  have c_own_tick := ok_own_tick (P := P) (w := w) (base := base) T d_own_tick B_own_tick
  have c_place_of := ok_place_of (P := P) (w := w) (base := base) T d_place_of B_place_of
  have c_frame_behind := ok_frame_behind (P := P) (w := w) (base := base) T d_frame_behind B_frame_behind
  have c_mixed := ok_mixed T c_nearest d_mixed B_mixed
  have c_changed_box := ok_changed_box (P := P) (w := w) (base := base) T d_changed_box B_changed_box
  have c_cells_in := ok_cells_in T c_in_box d_cells_in B_cells_in
  have c_told_of := ok_told_of T c_changed_box c_cells_in d_told_of B_told_of
  have c_pasted := ok_pasted (P := P) (w := w) (base := base) T d_pasted B_pasted
  have c_is_head := ok_is_head (P := P) (w := w) (base := base) T d_is_head B_is_head
  have c_read_from := ok_read_from T c_blank_cells c_is_head c_pasted d_read_from B_read_from
  have m_begin := ok_begin T L c_blank_frame M_begin F_begin B_begin
  have m_remember := ok_remember (P := P) (w := w) (base := base) T L M_remember F_remember B_remember
  have m_extent := ok_extent T L c_all_ticks M_extent F_extent B_extent
  have m_has_frame := ok_has_frame (P := P) (w := w) (base := base) T L M_has_frame F_has_frame B_has_frame
  have m_change_frames := ok_change_frames T L m_remember m_extent M_change_frames F_change_frames B_change_frames
  have m_change_goes_on := ok_change_goes_on T L m_remember m_extent M_change_goes_on F_change_goes_on B_change_goes_on
  have m_change_size := ok_change_size T L m_remember m_extent M_change_size F_change_size B_change_size
  have m_go_back := ok_go_back T L m_extent M_go_back F_go_back B_go_back
  have m_place_at := ok_place_at T L c_all_ticks c_own_tick c_place_of M_place_at F_place_at B_place_at
  have m_Film := ok_init T L m_begin M_init (PySem.W.mg_of X G aC) F_init B_init
  have c_is_size := ok_is_size (P := P) (w := w) (base := base) T d_is_size B_is_size
  have p0 := ok_page T L c_is_size m_begin m_extent d_page B_page
  have p1 := ok_put T L c_doubled c_all_ticks m_has_frame m_change_frames d_put B_put
  have p2 := ok_drop T L c_without m_has_frame m_change_frames d_drop B_drop
  have p3 := ok_box T L c_filled c_replaced m_has_frame m_change_frames d_box B_box
  have p4 := ok_ticks T L c_replaced c_all_ticks m_has_frame m_change_frames d_ticks B_ticks
  have p5 := ok_loop T L m_change_goes_on d_loop B_loop
  have p6 := ok_turn T L m_change_frames d_turn B_turn
  have p7 := ok_together T L c_put_together m_change_frames d_together B_together
  have p8 := ok_stretch T L c_cut_out c_all_ticks m_change_frames d_stretch B_stretch
  have p9 := ok_bring T L c_brought m_change_frames d_bring B_bring
  have p10 := ok_read T L c_is_size c_read_from c_all_ticks m_change_size d_read B_read
  have p11 := ok_undo T L m_go_back d_undo B_undo
  have p12 := ok_shown T L m_place_at d_shown B_shown
  have p13 := ok_between T L c_frame_behind c_mixed m_place_at d_between B_between
  have p14 := ok_place T L m_place_at d_place B_place
  have p15 := ok_told T L c_told_of d_told B_told
  have p16 := ok_listed (P := P) (w := w) (base := base) T L d_listed B_listed
  have Tb : Tab P w K mg base C tc_CALLS := by
    refine ⟨⟨_, PySem.W.mg_of X G v_CALLS, rfl⟩, [r_CALLS_0, r_CALLS_1, r_CALLS_2, r_CALLS_3, r_CALLS_4, r_CALLS_5, r_CALLS_6, r_CALLS_7, r_CALLS_8, r_CALLS_9, r_CALLS_10, r_CALLS_11, r_CALLS_12, r_CALLS_13, r_CALLS_14, r_CALLS_15, r_CALLS_16], fun H => .inr ⟨_, _, _, lt_CALLS, rfl, rfl, by show 17 ≤ sizeLine; decide, ?_⟩, fun q hq => ?_⟩
    · exact .cons rfl (.cons rfl (.cons rfl (.cons rfl (.cons rfl (.cons rfl (.cons rfl (.cons rfl (.cons rfl (.cons rfl (.cons rfl (.cons rfl (.cons rfl (.cons rfl (.cons rfl (.cons rfl (.cons rfl .nil))))))))))))))))
    · have e : q = 0 ∨ q = 1 ∨ q = 2 ∨ q = 3 ∨ q = 4 ∨ q = 5 ∨ q = 6 ∨ q = 7 ∨ q = 8 ∨ q = 9 ∨ q = 10 ∨ q = 11 ∨ q = 12 ∨ q = 13 ∨ q = 14 ∨ q = 15 ∨ q = 16 := by omega
      rcases e with rfl | rfl | rfl | rfl | rfl | rfl | rfl | rfl | rfl | rfl | rfl | rfl | rfl | rfl | rfl | rfl | rfl
      · exact ⟨_, f_page, _, rfl, fun H => .inr ⟨_, _, _, lr_CALLS_0, rfl, rfl, by show 2 ≤ sizeLine; decide, .cons rfl (.cons ⟨_, rfl⟩ .nil)⟩, at_of_cal p0 (PySem.W.mg_of X G a_page) (by decide), any_call (q := 0) (by decide)⟩
      · exact ⟨_, f_put, _, rfl, fun H => .inr ⟨_, _, _, lr_CALLS_1, rfl, rfl, by show 2 ≤ sizeLine; decide, .cons rfl (.cons ⟨_, rfl⟩ .nil)⟩, at_of_cal p1 (PySem.W.mg_of X G a_put) (by decide), any_call (q := 1) (by decide)⟩
      · exact ⟨_, f_drop, _, rfl, fun H => .inr ⟨_, _, _, lr_CALLS_2, rfl, rfl, by show 2 ≤ sizeLine; decide, .cons rfl (.cons ⟨_, rfl⟩ .nil)⟩, at_of_cal p2 (PySem.W.mg_of X G a_drop) (by decide), any_call (q := 2) (by decide)⟩
      · exact ⟨_, f_box, _, rfl, fun H => .inr ⟨_, _, _, lr_CALLS_3, rfl, rfl, by show 2 ≤ sizeLine; decide, .cons rfl (.cons ⟨_, rfl⟩ .nil)⟩, at_of_cal p3 (PySem.W.mg_of X G a_box) (by decide), any_call (q := 3) (by decide)⟩
      · exact ⟨_, f_ticks, _, rfl, fun H => .inr ⟨_, _, _, lr_CALLS_4, rfl, rfl, by show 2 ≤ sizeLine; decide, .cons rfl (.cons ⟨_, rfl⟩ .nil)⟩, at_of_cal p4 (PySem.W.mg_of X G a_ticks) (by decide), any_call (q := 4) (by decide)⟩
      · exact ⟨_, f_loop, _, rfl, fun H => .inr ⟨_, _, _, lr_CALLS_5, rfl, rfl, by show 2 ≤ sizeLine; decide, .cons rfl (.cons ⟨_, rfl⟩ .nil)⟩, at_of_cal p5 (PySem.W.mg_of X G a_loop) (by decide), any_call (q := 5) (by decide)⟩
      · exact ⟨_, f_turn, _, rfl, fun H => .inr ⟨_, _, _, lr_CALLS_6, rfl, rfl, by show 2 ≤ sizeLine; decide, .cons rfl (.cons ⟨_, rfl⟩ .nil)⟩, at_of_cal p6 (PySem.W.mg_of X G a_turn) (by decide), any_call (q := 6) (by decide)⟩
      · exact ⟨_, f_together, _, rfl, fun H => .inr ⟨_, _, _, lr_CALLS_7, rfl, rfl, by show 2 ≤ sizeLine; decide, .cons rfl (.cons ⟨_, rfl⟩ .nil)⟩, at_of_cal p7 (PySem.W.mg_of X G a_together) (by decide), any_call (q := 7) (by decide)⟩
      · exact ⟨_, f_stretch, _, rfl, fun H => .inr ⟨_, _, _, lr_CALLS_8, rfl, rfl, by show 2 ≤ sizeLine; decide, .cons rfl (.cons ⟨_, rfl⟩ .nil)⟩, at_of_cal p8 (PySem.W.mg_of X G a_stretch) (by decide), any_call (q := 8) (by decide)⟩
      · exact ⟨_, f_bring, _, rfl, fun H => .inr ⟨_, _, _, lr_CALLS_9, rfl, rfl, by show 2 ≤ sizeLine; decide, .cons rfl (.cons ⟨_, rfl⟩ .nil)⟩, at_of_cal p9 (PySem.W.mg_of X G a_bring) (by decide), any_call (q := 9) (by decide)⟩
      · exact ⟨_, f_read, _, rfl, fun H => .inr ⟨_, _, _, lr_CALLS_10, rfl, rfl, by show 2 ≤ sizeLine; decide, .cons rfl (.cons ⟨_, rfl⟩ .nil)⟩, at_of_cal p10 (PySem.W.mg_of X G a_read) (by decide), any_read⟩
      · exact ⟨_, f_undo, _, rfl, fun H => .inr ⟨_, _, _, lr_CALLS_11, rfl, rfl, by show 2 ≤ sizeLine; decide, .cons rfl (.cons ⟨_, rfl⟩ .nil)⟩, at_of_cal p11 (PySem.W.mg_of X G a_undo) (by decide), any_call (q := 11) (by decide)⟩
      · exact ⟨_, f_shown, _, rfl, fun H => .inr ⟨_, _, _, lr_CALLS_12, rfl, rfl, by show 2 ≤ sizeLine; decide, .cons rfl (.cons ⟨_, rfl⟩ .nil)⟩, at_of_cal p12 (PySem.W.mg_of X G a_shown) (by decide), any_call (q := 12) (by decide)⟩
      · exact ⟨_, f_between, _, rfl, fun H => .inr ⟨_, _, _, lr_CALLS_13, rfl, rfl, by show 2 ≤ sizeLine; decide, .cons rfl (.cons ⟨_, rfl⟩ .nil)⟩, at_of_cal p13 (PySem.W.mg_of X G a_between) (by decide), any_call (q := 13) (by decide)⟩
      · exact ⟨_, f_place, _, rfl, fun H => .inr ⟨_, _, _, lr_CALLS_14, rfl, rfl, by show 2 ≤ sizeLine; decide, .cons rfl (.cons ⟨_, rfl⟩ .nil)⟩, at_of_cal p14 (PySem.W.mg_of X G a_place) (by decide), any_call (q := 14) (by decide)⟩
      · exact ⟨_, f_told, _, rfl, fun H => .inr ⟨_, _, _, lr_CALLS_15, rfl, rfl, by show 2 ≤ sizeLine; decide, .cons rfl (.cons ⟨_, rfl⟩ .nil)⟩, at_of_cal p15 (PySem.W.mg_of X G a_told) (by decide), any_call (q := 15) (by decide)⟩
      · exact ⟨_, f_listed, _, rfl, fun H => .inr ⟨_, _, _, lr_CALLS_16, rfl, rfl, by show 2 ≤ sizeLine; decide, .cons rfl (.cons ⟨_, rfl⟩ .nil)⟩, at_of_cal p16 (PySem.W.mg_of X G a_listed) (by decide), any_call (q := 16) (by decide)⟩
  have c_end_of_call := ok_end_of_call T Tb d_end_of_call B_end_of_call
  have c_answer_calls := ok_answer_calls T L Tb c_end_of_call d_answer_calls B_answer_calls
  exact ok_answers T m_Film c_answer_calls ⟨F_main, PySem.W.mg_of X G a_answers, k_answers⟩
end FF
open PySem PySem.W PyProof.Rows
set_option maxRecDepth 100000 in
set_option maxHeartbeats 0 in
theorem PySem.Challenge.cw_filmframes_s01_answers_holds : PySem.Challenge.rw_filmframes_s01_answers.Holds := by
  w_on; k_headS; (case hw => exact ⟨[.list [.int 6]], by decide +kernel, by decide +kernel⟩)
  k_fillS
  refine L2.walk_specK (r := PySem.Challenge.rw_filmframes_s01_answers) (k := 6) (CX := C8.CX0) (ps := ["calls"]) (sp := FF.spAns) (by decide +kernel) rfl rfl ⟨rfl, by decide, by decide⟩ (fun w h Y => PySem.W.kIn_of Y) ?F ?S (fun _ _ _ _ z => z)
  case F =>
    intro w mg fa h Y KX G hmg
    refine' FF.all_mk KX G hmg ?aC ?pg ?hd ?po ?sa ?mk_ ?kc ?n_width ?n_height ?n_goes_on ?n_frames ?n_past ?a_init ?l_init ?c_init ?k_init ?i_init ?a_begin ?l_begin ?c_begin ?k_begin ?i_begin ?a_remember ?l_remember ?c_remember ?k_remember ?i_remember ?a_extent ?l_extent ?c_extent ?k_extent ?i_extent ?a_change_frames ?l_change_frames ?c_change_frames ?k_change_frames ?i_change_frames ?a_change_goes_on ?l_change_goes_on ?c_change_goes_on ?k_change_goes_on ?i_change_goes_on ?a_change_size ?l_change_size ?c_change_size ?k_change_size ?i_change_size ?a_go_back ?l_go_back ?c_go_back ?k_go_back ?i_go_back ?a_has_frame ?l_has_frame ?c_has_frame ?k_has_frame ?i_has_frame ?a_place_at ?l_place_at ?c_place_at ?k_place_at ?i_place_at ?a_blank_cells ?l_blank_cells ?c_blank_cells ?k_blank_cells ?a_blank_frame ?l_blank_frame ?c_blank_frame ?k_blank_frame ?a_all_ticks ?l_all_ticks ?c_all_ticks ?k_all_ticks ?a_doubled ?l_doubled ?c_doubled ?k_doubled ?a_without ?l_without ?c_without ?k_without ?a_replaced ?l_replaced ?c_replaced ?k_replaced ?a_in_box ?l_in_box ?c_in_box ?k_in_box ?a_filled ?l_filled ?c_filled ?k_filled ?a_put_together ?l_put_together ?c_put_together ?k_put_together ?a_cut_out ?l_cut_out ?c_cut_out ?k_cut_out ?a_nearest ?l_nearest ?c_nearest ?k_nearest ?a_brought ?l_brought ?c_brought ?k_brought ?a_own_tick ?l_own_tick ?c_own_tick ?k_own_tick ?a_place_of ?l_place_of ?c_place_of ?k_place_of ?a_frame_behind ?l_frame_behind ?c_frame_behind ?k_frame_behind ?a_mixed ?l_mixed ?c_mixed ?k_mixed ?a_changed_box ?l_changed_box ?c_changed_box ?k_changed_box ?a_cells_in ?l_cells_in ?c_cells_in ?k_cells_in ?a_told_of ?l_told_of ?c_told_of ?k_told_of ?a_pasted ?l_pasted ?c_pasted ?k_pasted ?a_is_head ?l_is_head ?c_is_head ?k_is_head ?a_read_from ?l_read_from ?c_read_from ?k_read_from ?a_is_size ?l_is_size ?c_is_size ?k_is_size ?a_page ?l_page ?c_page ?k_page ?a_put ?l_put ?c_put ?k_put ?a_drop ?l_drop ?c_drop ?k_drop ?a_box ?l_box ?c_box ?k_box ?a_ticks ?l_ticks ?c_ticks ?k_ticks ?a_loop ?l_loop ?c_loop ?k_loop ?a_turn ?l_turn ?c_turn ?k_turn ?a_together ?l_together ?c_together ?k_together ?a_stretch ?l_stretch ?c_stretch ?k_stretch ?a_bring ?l_bring ?c_bring ?k_bring ?a_read ?l_read ?c_read ?k_read ?a_undo ?l_undo ?c_undo ?k_undo ?a_shown ?l_shown ?c_shown ?k_shown ?a_between ?l_between ?c_between ?k_between ?a_place ?l_place ?c_place ?k_place ?a_told ?l_told ?c_told ?k_told ?a_listed ?l_listed ?c_listed ?k_listed ?a_end_of_call ?l_end_of_call ?c_end_of_call ?k_end_of_call ?a_answer_calls ?l_answer_calls ?c_answer_calls ?k_answer_calls ?a_answers ?l_answers ?c_answers ?k_answers ?b_any ?b_enumerate ?b_len ?b_list ?b_max ?b_min ?b_range ?b_reversed ?b_sum ?b_zip ?v_MOST_TICKS ?v_MOST_NUMBER ?v_STAYS ?v_GOES_ROUND ?v_THERE_AND_BACK ?v_HEAD ?v_MOST_SIDE ?v_MOST_FRAMES ?v_MOST_UNDONE ?v_BAD_SIZE ?v_NO_FRAME ?v_BAD_NUMBER ?v_NOTHING_TO_UNDO ?v_BAD_FRAME_COUNT ?v_BAD_TICKS ?v_READ ?v_CALLS ?lt_CALLS ?lr_CALLS_0 ?lr_CALLS_1 ?lr_CALLS_2 ?lr_CALLS_3 ?lr_CALLS_4 ?lr_CALLS_5 ?lr_CALLS_6 ?lr_CALLS_7 ?lr_CALLS_8 ?lr_CALLS_9 ?lr_CALLS_10 ?lr_CALLS_11 ?lr_CALLS_12 ?lr_CALLS_13 ?lr_CALLS_14 ?lr_CALLS_15 ?lr_CALLS_16
    (case aC => k_is)
    (case pg => k_is)
    (case hd => k_is)
    (case po => k_is)
    (case sa => k_is)
    (case mk_ => k_is)
    (case kc => k_is)
    (case n_width => k_is)
    (case n_height => k_is)
    (case n_goes_on => k_is)
    (case n_frames => k_is)
    (case n_past => k_is)
    (case a_init => k_is)
    (case l_init => k_is)
    (case c_init => k_is)
    (case k_init => k_is)
    (case i_init => k_is)
    (case a_begin => k_is)
    (case l_begin => k_is)
    (case c_begin => k_is)
    (case k_begin => k_is)
    (case i_begin => k_is)
    (case a_remember => k_is)
    (case l_remember => k_is)
    (case c_remember => k_is)
    (case k_remember => k_is)
    (case i_remember => k_is)
    (case a_extent => k_is)
    (case l_extent => k_is)
    (case c_extent => k_is)
    (case k_extent => k_is)
    (case i_extent => k_is)
    (case a_change_frames => k_is)
    (case l_change_frames => k_is)
    (case c_change_frames => k_is)
    (case k_change_frames => k_is)
    (case i_change_frames => k_is)
    (case a_change_goes_on => k_is)
    (case l_change_goes_on => k_is)
    (case c_change_goes_on => k_is)
    (case k_change_goes_on => k_is)
    (case i_change_goes_on => k_is)
    (case a_change_size => k_is)
    (case l_change_size => k_is)
    (case c_change_size => k_is)
    (case k_change_size => k_is)
    (case i_change_size => k_is)
    (case a_go_back => k_is)
    (case l_go_back => k_is)
    (case c_go_back => k_is)
    (case k_go_back => k_is)
    (case i_go_back => k_is)
    (case a_has_frame => k_is)
    (case l_has_frame => k_is)
    (case c_has_frame => k_is)
    (case k_has_frame => k_is)
    (case i_has_frame => k_is)
    (case a_place_at => k_is)
    (case l_place_at => k_is)
    (case c_place_at => k_is)
    (case k_place_at => k_is)
    (case i_place_at => k_is)
    (case a_blank_cells => k_is)
    (case l_blank_cells => k_is)
    (case c_blank_cells => k_is)
    (case k_blank_cells => k_is)
    (case a_blank_frame => k_is)
    (case l_blank_frame => k_is)
    (case c_blank_frame => k_is)
    (case k_blank_frame => k_is)
    (case a_all_ticks => k_is)
    (case l_all_ticks => k_is)
    (case c_all_ticks => k_is)
    (case k_all_ticks => k_is)
    (case a_doubled => k_is)
    (case l_doubled => k_is)
    (case c_doubled => k_is)
    (case k_doubled => k_is)
    (case a_without => k_is)
    (case l_without => k_is)
    (case c_without => k_is)
    (case k_without => k_is)
    (case a_replaced => k_is)
    (case l_replaced => k_is)
    (case c_replaced => k_is)
    (case k_replaced => k_is)
    (case a_in_box => k_is)
    (case l_in_box => k_is)
    (case c_in_box => k_is)
    (case k_in_box => k_is)
    (case a_filled => k_is)
    (case l_filled => k_is)
    (case c_filled => k_is)
    (case k_filled => k_is)
    (case a_put_together => k_is)
    (case l_put_together => k_is)
    (case c_put_together => k_is)
    (case k_put_together => k_is)
    (case a_cut_out => k_is)
    (case l_cut_out => k_is)
    (case c_cut_out => k_is)
    (case k_cut_out => k_is)
    (case a_nearest => k_is)
    (case l_nearest => k_is)
    (case c_nearest => k_is)
    (case k_nearest => k_is)
    (case a_brought => k_is)
    (case l_brought => k_is)
    (case c_brought => k_is)
    (case k_brought => k_is)
    (case a_own_tick => k_is)
    (case l_own_tick => k_is)
    (case c_own_tick => k_is)
    (case k_own_tick => k_is)
    (case a_place_of => k_is)
    (case l_place_of => k_is)
    (case c_place_of => k_is)
    (case k_place_of => k_is)
    (case a_frame_behind => k_is)
    (case l_frame_behind => k_is)
    (case c_frame_behind => k_is)
    (case k_frame_behind => k_is)
    (case a_mixed => k_is)
    (case l_mixed => k_is)
    (case c_mixed => k_is)
    (case k_mixed => k_is)
    (case a_changed_box => k_is)
    (case l_changed_box => k_is)
    (case c_changed_box => k_is)
    (case k_changed_box => k_is)
    (case a_cells_in => k_is)
    (case l_cells_in => k_is)
    (case c_cells_in => k_is)
    (case k_cells_in => k_is)
    (case a_told_of => k_is)
    (case l_told_of => k_is)
    (case c_told_of => k_is)
    (case k_told_of => k_is)
    (case a_pasted => k_is)
    (case l_pasted => k_is)
    (case c_pasted => k_is)
    (case k_pasted => k_is)
    (case a_is_head => k_is)
    (case l_is_head => k_is)
    (case c_is_head => k_is)
    (case k_is_head => k_is)
    (case a_read_from => k_is)
    (case l_read_from => k_is)
    (case c_read_from => k_is)
    (case k_read_from => k_is)
    (case a_is_size => k_is)
    (case l_is_size => k_is)
    (case c_is_size => k_is)
    (case k_is_size => k_is)
    (case a_page => k_is)
    (case l_page => k_is)
    (case c_page => k_is)
    (case k_page => k_is)
    (case a_put => k_is)
    (case l_put => k_is)
    (case c_put => k_is)
    (case k_put => k_is)
    (case a_drop => k_is)
    (case l_drop => k_is)
    (case c_drop => k_is)
    (case k_drop => k_is)
    (case a_box => k_is)
    (case l_box => k_is)
    (case c_box => k_is)
    (case k_box => k_is)
    (case a_ticks => k_is)
    (case l_ticks => k_is)
    (case c_ticks => k_is)
    (case k_ticks => k_is)
    (case a_loop => k_is)
    (case l_loop => k_is)
    (case c_loop => k_is)
    (case k_loop => k_is)
    (case a_turn => k_is)
    (case l_turn => k_is)
    (case c_turn => k_is)
    (case k_turn => k_is)
    (case a_together => k_is)
    (case l_together => k_is)
    (case c_together => k_is)
    (case k_together => k_is)
    (case a_stretch => k_is)
    (case l_stretch => k_is)
    (case c_stretch => k_is)
    (case k_stretch => k_is)
    (case a_bring => k_is)
    (case l_bring => k_is)
    (case c_bring => k_is)
    (case k_bring => k_is)
    (case a_read => k_is)
    (case l_read => k_is)
    (case c_read => k_is)
    (case k_read => k_is)
    (case a_undo => k_is)
    (case l_undo => k_is)
    (case c_undo => k_is)
    (case k_undo => k_is)
    (case a_shown => k_is)
    (case l_shown => k_is)
    (case c_shown => k_is)
    (case k_shown => k_is)
    (case a_between => k_is)
    (case l_between => k_is)
    (case c_between => k_is)
    (case k_between => k_is)
    (case a_place => k_is)
    (case l_place => k_is)
    (case c_place => k_is)
    (case k_place => k_is)
    (case a_told => k_is)
    (case l_told => k_is)
    (case c_told => k_is)
    (case k_told => k_is)
    (case a_listed => k_is)
    (case l_listed => k_is)
    (case c_listed => k_is)
    (case k_listed => k_is)
    (case a_end_of_call => k_is)
    (case l_end_of_call => k_is)
    (case c_end_of_call => k_is)
    (case k_end_of_call => k_is)
    (case a_answer_calls => k_is)
    (case l_answer_calls => k_is)
    (case c_answer_calls => k_is)
    (case k_answer_calls => k_is)
    (case a_answers => k_is)
    (case l_answers => k_is)
    (case c_answers => k_is)
    (case k_answers => k_is)
    (case b_any => k_is)
    (case b_enumerate => k_is)
    (case b_len => k_is)
    (case b_list => k_is)
    (case b_max => k_is)
    (case b_min => k_is)
    (case b_range => k_is)
    (case b_reversed => k_is)
    (case b_sum => k_is)
    (case b_zip => k_is)
    (case v_MOST_TICKS => k_is)
    (case v_MOST_NUMBER => k_is)
    (case v_STAYS => k_is)
    (case v_GOES_ROUND => k_is)
    (case v_THERE_AND_BACK => k_is)
    (case v_HEAD => k_is)
    (case v_MOST_SIDE => k_is)
    (case v_MOST_FRAMES => k_is)
    (case v_MOST_UNDONE => k_is)
    (case v_BAD_SIZE => k_is)
    (case v_NO_FRAME => k_is)
    (case v_BAD_NUMBER => k_is)
    (case v_NOTHING_TO_UNDO => k_is)
    (case v_BAD_FRAME_COUNT => k_is)
    (case v_BAD_TICKS => k_is)
    (case v_READ => k_is)
    (case v_CALLS => k_is)
    (case lt_CALLS => k_is)
    (case lr_CALLS_0 => k_is)
    (case lr_CALLS_1 => k_is)
    (case lr_CALLS_2 => k_is)
    (case lr_CALLS_3 => k_is)
    (case lr_CALLS_4 => k_is)
    (case lr_CALLS_5 => k_is)
    (case lr_CALLS_6 => k_is)
    (case lr_CALLS_7 => k_is)
    (case lr_CALLS_8 => k_is)
    (case lr_CALLS_9 => k_is)
    (case lr_CALLS_10 => k_is)
    (case lr_CALLS_11 => k_is)
    (case lr_CALLS_12 => k_is)
    (case lr_CALLS_13 => k_is)
    (case lr_CALLS_14 => k_is)
    (case lr_CALLS_15 => k_is)
    (case lr_CALLS_16 => k_is)
  case S =>
    intro K H xs a hO hwi hask hx
    cases hx with
    | cons h1 h2 =>
      cases h2
      cases h1 with
      | lst hs ha =>
        have e := L2.ints_dw a.1 _ ha
        subst e
        exact FF.ends_here hs hwi hask
