"""How calls and answers stand in one list."""

import unittest

from filmframes.film import answers
from wording import MOST, ask, box, drop, joined, loop, page, put, stretch, ticks, together, turn

MIXED = [page(3, 2), put(0), box(1, 1, 0, 1, 2, 9), ticks(1, 4), loop(1), turn(), put(1), together(), drop(5),
         stretch(1, 4), drop(0), drop(0)]


class ListTest(unittest.TestCase):
    def test_one_call(self):
        self.assertEqual(answers([0, 2, 3]), [2, 1, 1])
        self.assertEqual(answers([1, 0]), [2, 2, 2])
        self.assertEqual(answers([3, 0, 0, 0, 1, 1, 5]), [2, 1, 1])
        self.assertEqual(answers([4, 0, 9]), [2, 1, 9])
        self.assertEqual(answers([5, 2]), [2, 1, 1])
        self.assertEqual(answers([6]), [2, 1, 1])
        self.assertEqual(answers([7]), [2, 1, 1])
        self.assertEqual(answers([8, 0, 1]), [2, 1, 1])

    def test_one_refusal(self):
        self.assertEqual(answers([0, 7, 1]), [1, -1])
        self.assertEqual(answers([1, 1]), [1, -2])
        self.assertEqual(answers([2, 0]), [1, -5])
        self.assertEqual(answers([3, 0, 0, 0, 1, 1, 256]), [1, -3])
        self.assertEqual(answers([4, 0, 1001]), [1, -6])
        self.assertEqual(answers([5, 3]), [1, -3])
        self.assertEqual(answers([8, 1, 1]), [1, -3])

    def test_one_behind_another(self):
        self.assertEqual(answers([1, 0, 4, 1, 6, 7, 2, 0, 6, 5, 9]), [2, 2, 2, 2, 2, 7, 2, 1, 7, 1, -5, 2, 1, 7, 1, -3])

    def test_several_sorts(self):
        self.assertEqual(ask(*MIXED), [[1, 1], [2, 2], [2, 2], [2, 5], [2, 5], [2, 5], [3, 6], [2, 6], [-2],
                                       [2, 4], [1, 1], [-5]])

    def test_forty_calls(self):
        calls = [page(6, 6)] + [put(0)] * 12 + [box(11, 5, 5, 1, 1, 1)] + [drop(0)] * 12 + [ticks(0, 3), turn()] * 6
        calls += [together(), loop(MOST)]
        self.assertEqual(len(calls), 40)
        wanted = [[n, n] for n in range(1, 13)] + [[-5], [12, 12]] + [[n, n] for n in range(11, 0, -1)] + [[-5]]
        wanted += [[1, 3]] * 13 + [[-3]]
        self.assertEqual(ask(*calls), wanted)

    def test_the_list_handed_in_is_as_it_was(self):
        calls = joined(MIXED)
        kept = list(calls)
        answers(calls)
        self.assertEqual(calls, kept)

    def test_the_same_list_twice(self):
        calls = joined(MIXED)
        first = answers(calls)
        self.assertEqual(answers(calls), first)

    def test_nothing_is_kept_from_one_list_to_the_next(self):
        for before in (MIXED, [page(6, 6)] + [put(0)] * 11, [ticks(0, 1000)], [box(0, 0, 0, 1, 1, 9)]):
            answers(joined(before))
            self.assertEqual(ask(drop(0), put(1), put(0), box(1, 0, 0, 1, 1, 0), together()),
                             [[-5], [-2], [2, 2], [2, 2], [1, 2]])

    def test_an_answer_given_is_the_askers_own(self):
        first = answers([6, 7])
        first.append(9)
        self.assertEqual(answers([6, 7]), [2, 1, 1, 2, 1, 1])

    def test_whole_numbers_in_a_list(self):
        found = answers(joined(MIXED))
        self.assertIs(type(found), list)
        self.assertEqual({type(number) for number in found}, {int})


if __name__ == "__main__":
    unittest.main()
