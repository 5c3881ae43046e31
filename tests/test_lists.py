"""How calls and answers stand in one list."""

import unittest

from filmframes.film import answers
from wording import (MOST, ask, between, box, bring, drop, joined, listed, loop, page, place, put, read, shown, stretch,
                     ticks, together, told, turn, undo)

# Forty calls of all sorts, each with what it answers.
FORTY = [
    (undo(), [-4]), (listed(), [1, 1, 0, 1, 1]), (told(), [1, 0, 0, 0, 0]), (shown(MOST), [0]), (place(7), [0, 0]),
    (page(3, 2), [1, 1]), (undo(), [-4]), (put(0), [2, 2]), (box(1, 1, 0, 5, 1, 100), [2, 2]), (ticks(0, 4), [2, 5]),
    (between(1), [0, 25, 25, 0, 0, 0]), (between(4), [0, 100, 100, 0, 0, 0]), (shown(3), [0] * 6),
    (told(), [4, 0, 0, 0, 0, 1, 1, 0, 2, 1, 100, 100]), (loop(1), [2, 5]), (place(9), [1, 0]), (place(5), [0, 0]),
    (loop(3), [-3]), (bring(10), [2, 10]), (listed(), [3, 2, 1, 2, 8, 2]), (between(9), [0, 50, 50, 0, 0, 0]),
    (bring(1), [-6]), (read(1, 2, []), [-5]), (read(0, 2, []), [-1]), (read(1, 2, [1, 0, 0, 1]), [-3]),
    (read(1, 2, [3, 0, 1, 1, 1, 9, 2, 0, 0, 1, 2, 8, 9]), [2, 5]), (listed(), [1, 2, 1, 2, 3, 2]), (turn(), [2, 5]),
    (told(), [2, 0, 0, 1, 2, 8, 9, 3, 0, 0, 1, 1, 0]), (stretch(1, 2), [2, 2]), (drop(0), [1, 1]), (drop(0), [-5]),
    (shown(0), [0, 9]), (undo(), [2, 2]), (undo(), [2, 5]), (undo(), [2, 5]), (undo(), [2, 10]),
    (told(), [8, 0, 0, 0, 0, 2, 1, 0, 2, 1, 100, 100]), (together(), [2, 10]), (put(2), [-2]),
]
MIXED = [page(3, 2), put(0), box(1, 1, 0, 1, 2, 9), ticks(1, 4), loop(1), turn(), put(1), together(), drop(5),
         stretch(1, 4), drop(0), drop(0)]


class ListTest(unittest.TestCase):
    def test_one_call(self):
        self.assertEqual(answers([0, 2, 3]), [2, 1, 1])
        self.assertEqual(answers([1, 0]), [2, 2, 2])
        self.assertEqual(answers([3, 0, 0, 0, 1, 1, 5]), [2, 1, 1])
        self.assertEqual(answers([4, 0, 9]), [2, 1, 9])
        self.assertEqual(answers([5, 2]), [2, 1, 1])
        self.assertEqual(answers([6]), [2, 1, 1])
        self.assertEqual(answers([7]), [2, 1, 1])
        self.assertEqual(answers([8, 0, 1]), [2, 1, 1])
        self.assertEqual(answers([9, 30]), [2, 1, 30])
        self.assertEqual(answers([10, 2, 1, 7, 6, 0, 0, 2, 1, 8, 9]), [2, 1, 6])
        self.assertEqual(answers([11]), [1, -4])
        self.assertEqual(answers([12, 5]), [1, 0])
        self.assertEqual(answers([13, 5]), [1, 0])
        self.assertEqual(answers([14, 5]), [2, 0, 0])
        self.assertEqual(answers([15]), [5, 1, 0, 0, 0, 0])
        self.assertEqual(answers([16]), [5, 1, 1, 0, 1, 1])

    def test_one_refusal(self):
        self.assertEqual(answers([0, 7, 1]), [1, -1])
        self.assertEqual(answers([1, 1]), [1, -2])
        self.assertEqual(answers([2, 0]), [1, -5])
        self.assertEqual(answers([3, 0, 0, 0, 1, 1, 256]), [1, -3])
        self.assertEqual(answers([4, 0, 1001]), [1, -6])
        self.assertEqual(answers([5, 3]), [1, -3])
        self.assertEqual(answers([8, 1, 1]), [1, -3])
        self.assertEqual(answers([9, 0]), [1, -3])
        self.assertEqual(answers([10, 0, 1, 0]), [1, -1])
        self.assertEqual(answers([10, 1, 1, 1, 4]), [1, -3])
        self.assertEqual(answers([10, 1, 1, 0]), [1, -5])
        self.assertEqual(answers([11]), [1, -4])

    def test_one_behind_another(self):
        self.assertEqual(answers([1, 0, 4, 1, 6, 7, 2, 0, 6, 5, 9]), [2, 2, 2, 2, 2, 7, 2, 1, 7, 1, -5, 2, 1, 7, 1, -3])

    def test_several_sorts(self):
        self.assertEqual(ask(*MIXED), [[1, 1], [2, 2], [2, 2], [2, 5], [2, 5], [2, 5], [3, 6], [2, 6], [-2],
                                       [2, 4], [1, 1], [-5]])

    def test_forty_calls_of_all_sorts(self):
        self.assertEqual(len(FORTY), 40)
        self.assertEqual({call[0] for call, answer in FORTY}, set(range(17)))
        calls = [call for call, answer in FORTY]
        self.assertEqual(ask(*calls), [answer for call, answer in FORTY])
        self.assertEqual(answers(joined(calls)), [n for call, answer in FORTY for n in [len(answer)] + answer])

    def test_every_beginning_of_the_forty(self):
        for count in range(1, 40):
            self.assertEqual(ask(*[call for call, answer in FORTY[:count]]),
                             [answer for call, answer in FORTY[:count]])

    def test_as_long_as_a_list_may_be(self):
        numbers = [83, 0, 0, 6, 6] + list(range(1, 37))
        calls = [read(6, 6, numbers * 12 + [1] * 28)] * 39 + [read(6, 6, numbers * 12)]
        self.assertEqual(ask(*calls), [[-3]] * 39 + [[12, 996]])
        found = ask(read(6, 6, numbers * 12), *[told()] * 39)
        self.assertEqual(found[1:], [numbers + [83, 0, 0, 0, 0] * 11] * 39)

    def test_forty_calls(self):
        calls = [page(6, 6)] + [put(0)] * 12 + [box(11, 5, 5, 1, 1, 1)] + [drop(0)] * 12 + [ticks(0, 3), turn()] * 6
        calls += [together(), loop(MOST)]
        self.assertEqual(len(calls), 40)
        wanted = [[n, n] for n in range(1, 13)] + [[-5], [12, 12]] + [[n, n] for n in range(11, 0, -1)] + [[-5]]
        wanted += [[1, 3]] * 13 + [[-3]]
        self.assertEqual(ask(*calls), wanted)

    def test_the_list_handed_in_is_as_it_was(self):
        for sort in (MIXED, [call for call, answer in FORTY]):
            calls = joined(sort)
            kept = list(calls)
            answers(calls)
            self.assertEqual(calls, kept)

    def test_the_list_handed_in_is_not_changed_for_a_while_either(self):
        class Watched(list):
            def refuse(self, *given):
                raise AssertionError("the list was changed")
            __setitem__ = __delitem__ = __iadd__ = append = extend = insert = pop = remove = clear = refuse
            sort = reverse = refuse
        answers(Watched(joined([call for call, answer in FORTY])))

    def test_the_same_list_twice(self):
        for sort in (MIXED, [call for call, answer in FORTY]):
            calls = joined(sort)
            first = answers(calls)
            self.assertEqual(answers(calls), first)

    def test_nothing_is_kept_from_one_list_to_the_next(self):
        for before in (MIXED, [page(6, 6)] + [put(0)] * 11, [ticks(0, 1000)], [box(0, 0, 0, 1, 1, 9)]):
            answers(joined(before))
            self.assertEqual(ask(drop(0), put(1), put(0), box(1, 0, 0, 1, 1, 0), together()),
                             [[-5], [-2], [2, 2], [2, 2], [1, 2]])

    def test_an_answer_given_is_the_askers_own(self):
        first = answers([6, 7])
        first.append(9)
        self.assertEqual(answers([6, 7]), [2, 1, 1, 2, 1, 1])

    def test_whole_numbers_in_a_list(self):
        for sort in (MIXED, [call for call, answer in FORTY]):
            found = answers(joined(sort))
            self.assertIs(type(found), list)
            self.assertEqual({type(number) for number in found}, {int})

    def test_only_refusals_are_below_0_and_they_stand_alone(self):
        for answer in ask(*[call for call, answer in FORTY]) + ask(*MIXED):
            self.assertTrue(len(answer) == 1 or min(answer) >= 0, answer)


if __name__ == "__main__":
    unittest.main()
