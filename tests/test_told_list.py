"""The film told by what changed, and its list."""

import unittest
from itertools import product

from wording import (ask, box, bring, drop, film_behind, frames_of, last, listed, loop, marked, page, put, read, seen,
                     seen_back, stretch, ticks, together, told, turn, undo)

FILMS = [
    [],
    [page(6, 6)],
    [page(2, 1), put(0), box(1, 0, 0, 1, 1, 5), ticks(0, 3), loop(1)],
    [page(3, 4), box(0, 1, 1, 1, 2, 9), put(0), box(1, 0, 0, 3, 4, 0), put(1), put(2), box(3, 2, 3, 1, 1, 255)],
    [page(6, 6)] + [put(0)] * 11 + [box(i, i % 6, i // 2, 3, 2, i * 20) for i in range(12)] + [ticks(3, 989)],
    marked([(500, 1), (500, 255)]),
    [read(5, 2, [4, 0, 0, 5, 2] + list(range(10)) + [7, 1, 0, 3, 2, 1, 2, 99, 6, 7, 8]), turn(), bring(1000)],
]


class ToldTest(unittest.TestCase):
    def test_a_new_film(self):
        self.assertEqual(last(told()), [1, 0, 0, 0, 0])
        self.assertEqual(last(page(6, 5), told()), [1, 0, 0, 0, 0])

    def test_the_first_frame_against_a_page_of_0s(self):
        self.assertEqual(last(page(3, 2), box(0, 0, 0, 3, 2, 4), told()), [1, 0, 0, 3, 2, 4, 4, 4, 4, 4, 4])
        self.assertEqual(last(page(3, 2), box(0, 1, 1, 2, 1, 4), told()), [1, 1, 1, 2, 1, 4, 4])

    def test_nothing_changed(self):
        made = [page(3, 2), box(0, 1, 1, 1, 1, 4), ticks(0, 2), put(0), put(0), ticks(2, 9)]
        self.assertEqual(last(*made, told()), [2, 1, 1, 1, 1, 4, 2, 0, 0, 0, 0, 9, 0, 0, 0, 0])

    def test_each_frame_against_the_one_before(self):
        made = [page(3, 1), put(0), put(1), box(0, 0, 0, 1, 1, 1), box(1, 1, 0, 1, 1, 2), box(2, 1, 0, 2, 1, 2)]
        self.assertEqual(last(*made, told()), [1, 0, 0, 1, 1, 1, 1, 0, 0, 2, 1, 0, 2, 1, 2, 0, 1, 1, 2])

    def test_changed_to_0(self):
        self.assertEqual(last(page(2, 2), put(0), box(0, 1, 1, 1, 1, 8), told()),
                         [1, 1, 1, 1, 1, 8, 1, 1, 1, 1, 1, 0])

    def test_every_least_box_of_two_cells(self):
        w, h = 4, 3
        cells = list(product(range(w), range(h)))
        for (a, b), (c, d) in product(cells, repeat=2):
            made = [page(w, h), put(0), box(1, a, b, 1, 1, 7), box(1, c, d, 1, 1, 7)]
            x, y = min(a, c), min(b, d)
            u, v = abs(a - c) + 1, abs(b - d) + 1
            inner = [7 if (x + i, y + j) in ((a, b), (c, d)) else 0 for j in range(v) for i in range(u)]
            self.assertEqual(last(*made, told()), [1, 0, 0, 0, 0, 1, x, y, u, v] + inner)

    def test_cells_in_the_box_that_did_not_change(self):
        numbers = [1, 0, 0, 3, 3, 1, 2, 3, 4, 5, 6, 7, 8, 9]
        self.assertEqual(last(read(3, 3, numbers), put(0), box(1, 0, 0, 1, 1, 0), box(1, 1, 2, 1, 1, 0), told()),
                         numbers + [1, 0, 0, 2, 3, 0, 2, 4, 5, 7, 0])

    def test_the_numbers_row_by_row(self):
        numbers = [3, 1, 0, 2, 3, 11, 12, 13, 14, 15, 16]
        self.assertEqual(last(read(4, 4, numbers), told()), numbers)

    def test_told_and_read_it_is_the_same_film(self):
        for made in FILMS:
            w, h, k = last(*made, listed())[:3]
            numbers = last(*made, told())
            film = film_behind(*made)
            again = film_behind(loop(k), read(w, h, numbers))
            self.assertEqual((again.width, again.height, again.goes_on, frames_of(again.frames)),
                             (w, h, k, frames_of(film.frames)))
            self.assertEqual(last(read(w, h, numbers), told()), numbers)
            self.assertEqual(seen(*made, read(w, h, numbers)), seen(*made))

    def test_the_longest_told(self):
        made = [page(6, 6)] + [put(0)] * 11 + [box(i, 0, 0, 6, 6, 255 - i) for i in range(12)]
        numbers = last(*made, told())
        self.assertEqual(numbers, [n for i in range(12) for n in [1, 0, 0, 6, 6] + [255 - i] * 36])
        self.assertEqual(len(numbers), 492)
        self.assertEqual(ask(read(6, 6, numbers), told()), [[12, 12], numbers])

    def test_told_behind_changes(self):
        made = marked([(1, 4), (2, 4), (3, 5)])
        self.assertEqual(last(*made, together(), told()), [3, 0, 0, 1, 1, 4, 3, 0, 0, 1, 1, 5])
        self.assertEqual(last(*made, turn(), told()), [3, 0, 0, 1, 1, 5, 2, 0, 0, 1, 1, 4, 1, 0, 0, 0, 0])
        self.assertEqual(last(*made, stretch(2, 3), told()), [1, 0, 0, 1, 1, 4, 2, 0, 0, 1, 1, 5])
        self.assertEqual(last(*made, bring(12), told()), [2, 0, 0, 1, 1, 4, 4, 0, 0, 0, 0, 6, 0, 0, 1, 1, 5])
        self.assertEqual(last(*made, drop(0), told()), [2, 0, 0, 1, 1, 4, 3, 0, 0, 1, 1, 5])

    def test_it_changes_nothing(self):
        for made in FILMS:
            self.assertEqual(seen_back(*made, told(), told()), seen_back(*made))


class ListTest(unittest.TestCase):
    def test_a_new_film(self):
        self.assertEqual(last(listed()), [1, 1, 0, 1, 1])

    def test_the_pages_size(self):
        for w, h in product(range(1, 7), repeat=2):
            self.assertEqual(last(page(w, h), listed()), [w, h, 0, 1, 1])

    def test_how_it_goes_on(self):
        for k in (0, 1, 2):
            self.assertEqual(last(loop(k), listed()), [1, 1, k, 1, 1])
        self.assertEqual(last(loop(2), page(2, 3), listed()), [2, 3, 0, 1, 1])

    def test_each_ones_ticks(self):
        self.assertEqual(last(*marked([(3, 0), (1, 0), (900, 0)]), listed()), [1, 1, 0, 3, 3, 1, 900])
        self.assertEqual(last(*[put(0)] * 11, ticks(4, 7), listed()), [1, 1, 0, 12, 1, 1, 1, 1, 7] + [1] * 7)
        self.assertEqual(last(ticks(0, 1000), listed()), [1, 1, 0, 1, 1000])

    def test_behind_changes(self):
        made = marked([(1, 4), (2, 4), (3, 5)])
        self.assertEqual(ask(*made, listed(), turn(), listed(), together(), listed(), undo(), undo(), listed())[-8::2],
                         [[1, 1, 0, 3, 1, 2, 3], [1, 1, 0, 3, 3, 2, 1], [1, 1, 0, 2, 3, 3], [3, 6]])

    def test_it_changes_nothing(self):
        for made in FILMS:
            self.assertEqual(seen_back(*made, listed(), listed()), seen_back(*made))


if __name__ == "__main__":
    unittest.main()
