import unittest

from wording import MOST, ask, box, drop, film_behind, frames_behind, last, marked, page, put, state_of, ticks

A, B, C = (3, (1,)), (4, (2,)), (5, (3,))
ABC = marked([(3, 1), (4, 2), (5, 3)])


class PutTest(unittest.TestCase):
    def test_the_double_comes_behind(self):
        self.assertEqual(frames_behind(*ABC), [A, B, C])
        self.assertEqual(frames_behind(*ABC, put(0)), [A, A, B, C])
        self.assertEqual(frames_behind(*ABC, put(1)), [A, B, B, C])
        self.assertEqual(frames_behind(*ABC, put(2)), [A, B, C, C])

    def test_it_answers_frames_and_ticks(self):
        self.assertEqual(last(*ABC, put(0)), [4, 15])
        self.assertEqual(last(*ABC, put(2)), [4, 17])

    def test_the_two_are_changed_apart(self):
        self.assertEqual(frames_behind(put(0), box(0, 0, 0, 1, 1, 8)), [(1, (8,)), (1, (0,))])
        self.assertEqual(frames_behind(put(0), box(1, 0, 0, 1, 1, 8)), [(1, (0,)), (1, (8,))])
        self.assertEqual(frames_behind(put(0), ticks(0, 6)), [(6, (0,)), (1, (0,))])

    def test_no_such_frame(self):
        self.assertEqual(last(put(1)), [-2])
        for i in (3, 4, 12, MOST):
            self.assertEqual(last(*ABC, put(i)), [-2])

    def test_twelve_frames_at_the_most(self):
        found = ask(*[put(0)] * 13)
        self.assertEqual(found[:11], [[i, i] for i in range(2, 13)])
        self.assertEqual(found[11:], [[-5], [-5]])

    def test_after_a_drop_there_is_room(self):
        self.assertEqual(ask(*[put(0)] * 11, put(11), drop(0), put(10))[-3:], [[-5], [11, 11], [12, 12]])

    def test_just_1000_ticks(self):
        self.assertEqual(ask(ticks(0, 500), put(0)), [[1, 500], [2, 1000]])
        self.assertEqual(ask(ticks(0, 501), put(0)), [[1, 501], [-6]])
        self.assertEqual(last(ticks(0, 1000), put(0)), [-6])

    def test_it_is_that_frames_ticks_that_count(self):
        made = marked([(2, 1), (990, 2), (8, 3)])
        self.assertEqual(last(*made, put(0)), [-6])
        made = marked([(2, 1), (990, 2), (3, 3)])
        self.assertEqual(ask(*made, put(1), put(2), put(0), put(0))[-4:], [[-6], [4, 998], [5, 1000], [-6]])

    def test_the_refusal_told_first(self):
        twelve = [put(0)] * 11
        self.assertEqual(last(*twelve, put(12)), [-2])
        self.assertEqual(last(*twelve, ticks(0, 989), put(12)), [-2])
        self.assertEqual(last(*twelve, ticks(0, 989), put(0)), [-5])
        self.assertEqual(last(ticks(0, 1000), put(1)), [-2])

    def test_refused_all_is_as_it_was(self):
        full = [page(2, 1)] + [put(0)] * 11
        self.assertEqual(state_of(film_behind(*full, put(0))), state_of(film_behind(*full)))
        for made, bad in ((ABC, put(3)), ([ticks(0, 501)], put(0))):
            self.assertEqual(state_of(film_behind(*made, bad)), state_of(film_behind(*made)))


class DropTest(unittest.TestCase):
    def test_that_frame_is_gone(self):
        self.assertEqual(frames_behind(*ABC, drop(0)), [B, C])
        self.assertEqual(frames_behind(*ABC, drop(1)), [A, C])
        self.assertEqual(frames_behind(*ABC, drop(2)), [A, B])

    def test_it_answers_frames_and_ticks(self):
        self.assertEqual(last(*ABC, drop(0)), [2, 9])
        self.assertEqual(last(*ABC, drop(2)), [2, 7])

    def test_no_such_frame(self):
        for i in (3, 4, 12, MOST):
            self.assertEqual(last(*ABC, drop(i)), [-2])

    def test_just_one_frame(self):
        self.assertEqual(last(drop(0)), [-5])
        self.assertEqual(ask(put(0), drop(1), drop(0)), [[2, 2], [1, 1], [-5]])

    def test_the_refusal_told_first(self):
        self.assertEqual(last(drop(1)), [-2])
        self.assertEqual(last(drop(MOST)), [-2])

    def test_refused_all_is_as_it_was(self):
        for made, bad in ((ABC, drop(3)), ([ticks(0, 7)], drop(0))):
            self.assertEqual(state_of(film_behind(*made, bad)), state_of(film_behind(*made)))


if __name__ == "__main__":
    unittest.main()
