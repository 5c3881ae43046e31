import unittest

from wording import (MOST, ask, between, box, bring, frames_behind, last, listed, loop, marked, page, put, seen,
                     seen_back, ticks, undo)


def counts_behind(counts, m):
    """The frames' ticks, if frames with these counts are brought to m ticks."""
    return last(*marked([(count, i) for i, count in enumerate(counts)]), bring(m), listed())[4:]


class BringTest(unittest.TestCase):
    def test_it_answers_frames_and_ticks(self):
        self.assertEqual(last(*marked([(2, 5), (3, 6), (1, 7)]), bring(20)), [3, 20])

    def test_bad_length(self):
        for m in (0, 1001, 1002, MOST):
            self.assertEqual(last(bring(m)), [-3], m)
            self.assertEqual(last(ticks(0, 1000), bring(m)), [-3], m)

    def test_least_and_most_length(self):
        self.assertEqual(ask(bring(1), bring(1000), bring(1000), bring(1), bring(999)),
                         [[1, 1], [1, 1000], [1, 1000], [1, 1], [1, 999]])

    def test_longer(self):
        self.assertEqual(counts_behind([1, 2, 3], 12), [2, 4, 6])
        self.assertEqual(counts_behind([1, 2, 3], 1000), [167, 333, 500])
        self.assertEqual(counts_behind([1] * 12, 1000), [83, 84, 83, 83, 84, 83, 83, 84, 83, 83, 84, 83])

    def test_shorter(self):
        self.assertEqual(counts_behind([10, 20, 30], 6), [1, 2, 3])
        self.assertEqual(counts_behind([10, 20, 30], 7), [1, 3, 3])
        self.assertEqual(counts_behind([400, 1, 599], 999), [400, 1, 598])

    def test_the_same_length(self):
        for counts in ([1], [1, 1, 1], [2, 7, 1, 4], [1] * 12, [999, 1], [1, 999]):
            self.assertEqual(counts_behind(counts, sum(counts)), counts)

    def test_ends_to_the_nearest(self):
        self.assertEqual(counts_behind([1, 1, 1], 4), [1, 2, 1])
        self.assertEqual(counts_behind([1, 1, 1], 5), [2, 1, 2])

    def test_of_two_as_near_the_greater(self):
        self.assertEqual(counts_behind([1, 1], 3), [2, 1])
        self.assertEqual(counts_behind([1, 1], 5), [3, 2])
        self.assertEqual(counts_behind([1, 1], 7), [4, 3])
        self.assertEqual(counts_behind([1, 3], 2), [1, 1])
        self.assertEqual(counts_behind([1, 1, 1, 1], 6), [2, 1, 2, 1])
        self.assertEqual(counts_behind([3, 3], 999), [500, 499])

    def test_no_end_is_off_by_more_than_a_half(self):
        for counts in ([2, 3, 4], [7, 1, 5, 11], [3, 3, 3, 3, 3], [13, 90, 400]):
            for m in range(len(counts), 60):
                found = counts_behind(counts, m) if last(*marked([(c, 0) for c in counts]), bring(m)) != [-6] else []
                for i in range(len(found)):
                    off = sum(found[:i + 1]) * sum(counts) - sum(counts[:i + 1]) * m
                    self.assertTrue(-sum(counts) < 2 * off <= sum(counts), (counts, m, i))

    def test_a_frame_without_a_tick(self):
        for counts, m in (([1, 1], 1), ([1, 3], 1), ([3, 1], 1), ([500, 1], 2), ([9, 1, 9], 10), ([1, 999], 499),
                          ([999, 1], 500), ([1, 1, 998], 501), ([998, 1, 1], 500), ([1] * 12, 11)):
            made = marked([(count, i) for i, count in enumerate(counts)])
            self.assertEqual(last(*made, bring(m)), [-6], (counts, m))

    def test_just_a_tick_left(self):
        self.assertEqual(counts_behind([1, 3], 2), [1, 1])
        self.assertEqual(counts_behind([1, 999], 500), [1, 499])
        self.assertEqual(counts_behind([999, 1], 501), [500, 1])
        self.assertEqual(counts_behind([9, 1, 9], 9), [4, 1, 4])
        self.assertEqual(counts_behind([1] * 12, 12), [1] * 12)

    def test_a_bad_length_is_told_ahead_of_no_tick(self):
        self.assertEqual(last(put(0), put(0), bring(0)), [-3])

    def test_frames_ends_are_told_not_lengths(self):
        # Ends 2.5, 5, 7.5 and 10; rounded by itself each frame would have 3.
        self.assertEqual(counts_behind([1, 1, 1, 1], 10), [3, 2, 3, 2])

    def test_the_cells_stay(self):
        self.assertEqual(frames_behind(*marked([(2, 5), (1, 6), (1, 5)]), bring(8)), [(4, (5,)), (2, (6,)), (2, (5,))])

    def test_alike_neighbours_are_not_put_together(self):
        self.assertEqual(ask(put(0), put(0), bring(6), listed())[2:], [[3, 6], [1, 1, 0, 3, 2, 2, 2]])

    def test_it_goes_on_as_before(self):
        for k in (0, 1, 2):
            self.assertEqual(last(put(0), loop(k), bring(4), listed()), [1, 1, k, 2, 2, 2])

    def test_brought_and_brought_back(self):
        self.assertEqual(ask(*marked([(1, 5), (2, 6)]), bring(4), listed(), bring(3), listed())[-4:],
                         [[2, 4], [1, 1, 0, 2, 1, 3], [2, 3], [1, 1, 0, 2, 1, 2]])

    def test_what_lies_between_goes_by_the_new_ticks(self):
        self.assertEqual(ask(put(0), box(1, 0, 0, 1, 1, 100), bring(8), between(1), between(3))[-2:], [[25], [75]])

    def test_it_can_be_undone(self):
        made = marked([(2, 5), (3, 6)])
        self.assertEqual(last(*made, bring(9), undo()), [2, 5])
        self.assertEqual(seen(*made, bring(9), undo()), seen(*made))

    def test_refused_all_is_as_it_was(self):
        made = [page(1, 2), put(0), ticks(0, 30), loop(2)]
        for m in (0, 1, 1001, MOST):
            self.assertEqual(seen_back(*made, bring(m)), seen_back(*made))


if __name__ == "__main__":
    unittest.main()
