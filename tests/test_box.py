import unittest
from itertools import product

from wording import MOST, ask, box, film_behind, frames_behind, last, page, put, state_of, ticks, together


def cells_of(*calls):
    return frames_behind(*calls)[0][1]


class BoxTest(unittest.TestCase):
    def test_cells_row_by_row(self):
        self.assertEqual(cells_of(page(4, 3), box(0, 1, 0, 2, 2, 7)),
                         (0, 7, 7, 0,
                          0, 7, 7, 0,
                          0, 0, 0, 0))
        self.assertEqual(cells_of(page(4, 3), box(0, 3, 1, 1, 2, 255)),
                         (0, 0, 0, 0,
                          0, 0, 0, 255,
                          0, 0, 0, 255))

    def test_a_later_box_lies_above(self):
        self.assertEqual(cells_of(page(3, 2), box(0, 0, 0, 3, 2, 9), box(0, 1, 0, 1, 2, 0), box(0, 0, 1, 2, 1, 4)),
                         (9, 0, 9,
                          4, 4, 9))

    def test_every_small_box(self):
        w, h = 3, 2
        for x, y, u, v in product(range(5), repeat=4):
            wanted = tuple(6 if x <= c < x + u and y <= r < y + v else 0 for r in range(h) for c in range(w))
            self.assertEqual(cells_of(page(w, h), box(0, x, y, u, v, 6)), wanted, (x, y, u, v))

    def test_partly_beyond_the_page(self):
        self.assertEqual(cells_of(page(2, 2), box(0, 1, 1, MOST, MOST, 5)), (0, 0, 0, 5))
        self.assertEqual(cells_of(page(2, 2), box(0, 0, 1, MOST, 1, 5)), (0, 0, 5, 5))
        self.assertEqual(cells_of(page(2, 2), box(0, 1, 0, 1, MOST, 5)), (0, 5, 0, 5))

    def test_wholly_beyond_the_page(self):
        for x, y in ((2, 0), (0, 2), (2, 2), (MOST, 0), (0, MOST), (MOST, MOST)):
            calls = [page(2, 2), box(0, x, y, MOST, MOST, 5)]
            self.assertEqual(last(*calls), [1, 1])
            self.assertEqual(cells_of(*calls), (0, 0, 0, 0))

    def test_no_columns_or_no_rows(self):
        for u, v in ((0, 2), (2, 0), (0, 0), (0, MOST), (MOST, 0)):
            calls = [page(2, 2), box(0, 0, 0, u, v, 5)]
            self.assertEqual(last(*calls), [1, 1])
            self.assertEqual(cells_of(*calls), (0, 0, 0, 0))

    def test_only_that_frame(self):
        made = [page(1, 2), put(0), put(0), ticks(1, 4)]
        self.assertEqual(frames_behind(*made, box(1, 0, 0, 1, 1, 3)), [(1, (0, 0)), (4, (3, 0)), (1, (0, 0))])
        self.assertEqual(last(*made, box(1, 0, 0, 1, 1, 3)), [3, 6])

    def test_seen_through_together(self):
        made = [page(6, 6), put(0)]
        self.assertEqual(last(*made, box(1, 5, 5, 1, 1, 1), together()), [2, 2])
        self.assertEqual(last(*made, box(1, 6, 5, 1, 1, 1), together()), [1, 2])
        self.assertEqual(last(*made, box(1, 5, 6, 1, 1, 1), together()), [1, 2])
        self.assertEqual(last(*made, box(1, 0, 0, 6, 6, 1), box(0, 0, 0, 9, 9, 1), together()), [1, 2])

    def test_the_greatest_number(self):
        self.assertEqual(last(box(0, 0, 0, 1, 1, 255)), [1, 1])
        self.assertEqual(cells_of(box(0, 0, 0, 1, 1, 255)), (255,))
        for n in (256, 257, MOST):
            self.assertEqual(last(box(0, 0, 0, 1, 1, n)), [-3])

    def test_too_great_a_number_for_no_cell(self):
        self.assertEqual(ask(box(0, 0, 0, 0, 0, 256), box(0, 9, 9, 1, 1, 256)), [[-3], [-3]])

    def test_no_such_frame(self):
        self.assertEqual(last(box(1, 0, 0, 1, 1, 5)), [-2])
        for i in (2, 3, MOST):
            self.assertEqual(last(put(0), box(i, 0, 0, 1, 1, 5)), [-2])

    def test_the_refusal_told_first(self):
        self.assertEqual(last(box(1, 0, 0, 1, 1, 256)), [-2])
        self.assertEqual(last(box(MOST, MOST, MOST, MOST, MOST, MOST)), [-2])

    def test_refused_all_is_as_it_was(self):
        made = [page(2, 2), put(0), box(1, 0, 0, 1, 1, 9)]
        for bad in (box(2, 0, 0, 2, 2, 5), box(0, 0, 0, 2, 2, 256), box(1, 0, 0, 2, 2, MOST)):
            self.assertEqual(state_of(film_behind(*made, bad)), state_of(film_behind(*made)))


if __name__ == "__main__":
    unittest.main()
