import unittest

from wording import ask, box, film_behind, frames_behind, last, loop, marked, page, put, stretch, ticks, together, turn


def frames(numbers):
    return [(count, (cell,)) for count, cell in numbers]


class TurnTest(unittest.TestCase):
    def turned(self, numbers):
        self.assertEqual(frames_behind(*marked(numbers), turn()), frames(numbers[::-1]))
        self.assertEqual(last(*marked(numbers), turn()), [len(numbers), sum(count for count, cell in numbers)])
        self.assertEqual(frames_behind(*marked(numbers), turn(), turn()), frames(numbers))

    def test_one_frame(self):
        self.turned([(5, 9)])
        self.assertEqual(last(turn()), [1, 1])

    def test_several(self):
        self.turned([(1, 1), (2, 2)])
        self.turned([(1, 1), (2, 2), (3, 3)])
        self.turned([(i, i) for i in range(1, 13)])

    def test_alike_frames(self):
        self.turned([(1, 7), (2, 7), (3, 8)])
        self.turned([(1, 7), (2, 8), (3, 7)])
        self.turned([(1, 7), (2, 7), (3, 7)])

    def test_cells_are_not_turned(self):
        self.assertEqual(frames_behind(page(2, 2), box(0, 0, 0, 1, 1, 9), turn()), [(1, (9, 0, 0, 0))])

    def test_seen_through_other_calls(self):
        self.assertEqual(ask(put(0), ticks(0, 10), turn(), put(1), put(0)), [[2, 2], [2, 11], [2, 11], [3, 21], [4, 22]])

    def test_how_it_goes_on_stays(self):
        self.assertEqual(film_behind(loop(2), put(0), turn()).goes_on, 2)


class TogetherTest(unittest.TestCase):
    def put_together(self, numbers, wanted):
        self.assertEqual(frames_behind(*marked(numbers), together()), frames(wanted))
        self.assertEqual(last(*marked(numbers), together()), [len(wanted), sum(count for count, cell in numbers)])

    def test_one_frame(self):
        self.put_together([(5, 9)], [(5, 9)])
        self.assertEqual(last(together()), [1, 1])

    def test_no_alike_neighbours(self):
        self.put_together([(1, 1), (1, 2), (1, 3)], [(1, 1), (1, 2), (1, 3)])

    def test_alike_neighbours(self):
        self.put_together([(2, 7), (3, 7)], [(5, 7)])
        self.put_together([(2, 7), (3, 7), (4, 8)], [(5, 7), (4, 8)])
        self.put_together([(4, 8), (2, 7), (3, 7)], [(4, 8), (5, 7)])
        self.put_together([(1, 1), (2, 7), (3, 7), (4, 2)], [(1, 1), (5, 7), (4, 2)])

    def test_alike_frames_that_are_not_neighbours(self):
        self.put_together([(1, 7), (2, 8), (3, 7)], [(1, 7), (2, 8), (3, 7)])
        self.put_together([(1, 7), (2, 8), (3, 7), (4, 7), (5, 8)], [(1, 7), (2, 8), (7, 7), (5, 8)])

    def test_first_and_last_are_no_neighbours_when_it_goes_round(self):
        self.assertEqual(last(*marked([(1, 7), (2, 8), (3, 7)]), loop(1), together()), [3, 6])

    def test_three_and_more_in_a_row(self):
        self.put_together([(1, 7), (2, 7), (4, 7)], [(7, 7)])
        self.put_together([(1, 7), (2, 7), (4, 7), (8, 7), (1, 0)], [(15, 7), (1, 0)])
        self.put_together([(1, 7), (2, 7), (4, 8), (8, 8), (16, 9), (32, 9)], [(3, 7), (12, 8), (48, 9)])
        self.put_together([(1, 3)] * 12, [(12, 3)])

    def test_alike_with_other_ticks(self):
        self.put_together([(1, 7), (999, 7)], [(1000, 7)])

    def test_every_cell_counts(self):
        for c in range(36):
            made = [page(6, 6), put(0), box(1, c % 6, c // 6, 1, 1, 1)]
            self.assertEqual(last(*made, together()), [2, 2])
            self.assertEqual(last(*made, box(0, c % 6, c // 6, 1, 1, 1), together()), [1, 2])

    def test_one_left_is_changed_like_any(self):
        self.assertEqual(ask(put(0), put(0), together(), put(0), put(2), stretch(0, 6)),
                         [[2, 2], [3, 3], [1, 3], [2, 6], [-2], [2, 6]])

    def test_how_it_goes_on_stays(self):
        self.assertEqual(film_behind(loop(1), put(0), together()).goes_on, 1)


if __name__ == "__main__":
    unittest.main()
