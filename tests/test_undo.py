import unittest

from wording import (MOST, ask, between, box, bring, drop, last, listed, loop, page, place, put, read, seen, seen_back,
                     shown, stretch, ticks, together, told, turn, undo)

MADE = [page(2, 1), put(0), box(1, 0, 0, 1, 1, 5), ticks(0, 3), loop(1)]
# With alike neighbours, so that every sort of change alters it.
VARIED = [read(2, 1, [3, 0, 0, 0, 0, 1, 0, 0, 1, 1, 5, 2, 0, 0, 0, 0]), loop(1)]
CHANGES = [put(1), drop(0), box(0, 0, 0, 2, 1, 8), ticks(1, 7), loop(2), turn(), together(), stretch(1, 2), bring(9),
           read(1, 3, [4, 0, 0, 1, 1, 9])]
REFUSED = [page(0, 1), page(7, 7), put(2), drop(2), box(2, 0, 0, 1, 1, 1), box(0, 0, 0, 1, 1, 256), ticks(2, 1),
           ticks(0, 0), ticks(0, 1000), loop(3), stretch(0, 0), stretch(0, 5), bring(0), bring(1001), bring(1),
           read(7, 1, []), read(1, 1, [1]), read(1, 1, []), read(1, 1, [1, 0, 0, 0, 0] * 13)]
QUESTIONS = [shown(0), shown(MOST), between(1), between(MOST), place(2), place(MOST), told(), listed()]


def longer(count):
    """So many changes: behind the first there are 2 ticks, and each makes it one more."""
    return [ticks(0, 2 + i) for i in range(count)]


class UndoTest(unittest.TestCase):
    def test_nothing_to_be_undone(self):
        self.assertEqual(ask(undo(), undo()), [[-4], [-4]])

    def test_behind_page_nothing_can_be_undone(self):
        self.assertEqual(last(page(2, 2), undo()), [-4])
        self.assertEqual(ask(*MADE, page(2, 1), undo(), listed())[-2:], [[-4], [2, 1, 0, 1, 1]])
        self.assertEqual(ask(put(0), page(3, 3), put(0), undo(), undo(), listed())[-3:],
                         [[1, 1], [-4], [3, 3, 0, 1, 1]])

    def test_a_refused_page_leaves_what_can_be_undone(self):
        self.assertEqual(ask(put(0), page(0, 3), undo(), undo())[-2:], [[1, 1], [-4]])

    def test_each_change_is_undone(self):
        for change in CHANGES:
            self.assertNotEqual(seen(*VARIED, change), seen(*VARIED), change)
            self.assertEqual(seen(*VARIED, change, undo()), seen(*VARIED), change)
            self.assertEqual(seen_back(*VARIED, change)[1:], seen_back(*VARIED), change)

    def test_a_change_that_alters_nothing_is_undone_too(self):
        for change in (loop(0), turn(), together(), stretch(0, 1), ticks(0, 1), bring(1), box(0, 0, 0, 0, 0, 1),
                       box(0, 0, 0, 1, 1, 0), read(1, 1, [1, 0, 0, 0, 0])):
            self.assertEqual(ask(change, undo(), undo())[1:], [[1, 1], [-4]], change)

    def test_it_answers_frames_and_ticks(self):
        self.assertEqual(ask(put(0), put(0), ticks(0, 9), drop(0), undo(), undo(), undo(), undo(), undo())[4:],
                         [[3, 11], [3, 3], [2, 2], [1, 1], [-4]])

    def test_how_it_goes_on_comes_back(self):
        self.assertEqual(ask(loop(1), loop(2), undo(), listed(), undo(), listed())[2:],
                         [[1, 1], [1, 1, 1, 1, 1], [1, 1], [1, 1, 0, 1, 1]])

    def test_the_pages_size_comes_back(self):
        self.assertEqual(ask(page(2, 3), read(4, 1, [2, 0, 0, 0, 0]), undo(), listed(), shown(0))[2:],
                         [[1, 1], [2, 3, 0, 1, 1], [0] * 6])

    def test_frames_come_back_with_their_cells(self):
        self.assertEqual(ask(*MADE, box(0, 0, 0, 2, 1, 9), box(1, 0, 0, 2, 1, 9), together(), undo(), undo(), told(),
                             undo(), told())[-5:],
                         [[2, 4], [2, 4], [3, 0, 0, 2, 1, 9, 9, 1, 0, 0, 2, 1, 5, 0], [2, 4],
                          [3, 0, 0, 0, 0, 1, 0, 0, 1, 1, 5]])

    def test_fewer_than_eight(self):
        for count in range(8):
            self.assertEqual(ask(*longer(count), *[undo()] * (count + 2))[count:],
                             [[1, n] for n in range(count, 0, -1)] + [[-4], [-4]])

    def test_eight_in_a_row_and_not_a_ninth(self):
        self.assertEqual(ask(*longer(8), *[undo()] * 9)[8:], [[1, n] for n in range(8, 0, -1)] + [[-4]])

    def test_of_nine_and_more_the_last_eight(self):
        for count in (9, 10, 15, 16, 17, 25):
            self.assertEqual(ask(*longer(count), *[undo()] * 10)[count:],
                             [[1, n] for n in range(count, count - 8, -1)] + [[-4], [-4]])

    def test_of_all_sorts_the_last_eight(self):
        # Turned about, each sort of change is once the last and once the oldest of those kept.
        for first in range(len(CHANGES)):
            calls = list(VARIED)
            for call in CHANGES[first:] + CHANGES[:first]:
                if last(*calls, call)[0] > 0:
                    calls.append(call)
            self.assertGreater(len(calls), 8)
            self.assertEqual(seen_back(*calls), [seen(*calls[:i]) for i in range(len(calls), len(calls) - 9, -1)])

    def test_undo_then_a_change_then_undo(self):
        self.assertEqual(ask(ticks(0, 2), ticks(0, 3), undo(), ticks(0, 7), undo(), undo(), undo())[2:],
                         [[1, 2], [1, 7], [1, 2], [1, 1], [-4]])
        self.assertEqual(ask(*longer(8), *[undo()] * 3, ticks(0, 50), *[undo()] * 7)[8:],
                         [[1, 8], [1, 7], [1, 6], [1, 50], [1, 6], [1, 5], [1, 4], [1, 3], [1, 2], [1, 1], [-4]])

    def test_what_is_gone_stays_gone(self):
        self.assertEqual(ask(*longer(9), undo(), undo(), *[undo()] * 6, undo(), ticks(0, 40), undo(), undo())[9:],
                         [[1, n] for n in range(9, 1, -1)] + [[-4], [1, 40], [1, 2], [-4]])
        self.assertEqual(ask(*longer(9), undo(), ticks(0, 70), ticks(0, 80), *[undo()] * 9)[9:],
                         [[1, 9], [1, 70], [1, 80], [1, 70]] + [[1, n] for n in range(9, 2, -1)] + [[-4]])

    def test_an_undo_is_no_change(self):
        self.assertEqual(ask(ticks(0, 5), undo(), undo(), undo())[1:], [[1, 1], [-4], [-4]])

    def test_behind_a_refused_call(self):
        for call in REFUSED:
            self.assertEqual(len(last(*MADE, call)), 1, call)
            self.assertLess(last(*MADE, call)[0], 0, call)
            self.assertEqual(seen_back(*MADE, call), seen_back(*MADE), call)
            self.assertEqual(seen(*MADE, turn(), call, undo()), seen(*MADE), call)

    def test_a_refused_undo_changes_nothing(self):
        self.assertEqual(seen(undo()), seen())
        self.assertEqual(seen(put(0), undo(), undo()), seen())
        self.assertEqual(seen(page(3, 2), undo()), seen(page(3, 2)))

    def test_questions_are_not_undone(self):
        for question in QUESTIONS:
            self.assertEqual(seen_back(*MADE, question), seen_back(*MADE), question)
            self.assertEqual(seen(*MADE, turn(), *[question] * 9, undo()), seen(*MADE), question)
        self.assertEqual(last(*QUESTIONS, undo()), [-4])

    def test_full_of_refusals_and_questions(self):
        calls = longer(8) + REFUSED[:7] + QUESTIONS + [undo()] * 8 + REFUSED[7:8] + [undo()]
        self.assertEqual(ask(*calls)[-10:], [[1, n] for n in range(8, 0, -1)] + [[-3], [-4]])


if __name__ == "__main__":
    unittest.main()
