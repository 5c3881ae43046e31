import unittest

from wording import (MOST, ask, box, frames_behind, last, listed, loop, page, put, read, seen, seen_back, shown, ticks,
                     told, turn, undo)

BLANK = [1, 0, 0, 0, 0]


class ReadTest(unittest.TestCase):
    def test_one_frame(self):
        self.assertEqual(ask(read(2, 2, [7, 0, 0, 2, 2, 1, 2, 3, 4]), listed(), shown(0)),
                         [[1, 7], [2, 2, 0, 1, 7], [1, 2, 3, 4]])

    def test_each_box_is_what_changed_from_the_frame_before(self):
        numbers = [2, 1, 0, 2, 1, 5, 6, 3, 0, 0, 2, 2, 7, 8, 9, 10, 4, 0, 0, 0, 0, 1, 2, 1, 1, 1, 11]
        self.assertEqual(last(read(3, 2, numbers)), [4, 10])
        self.assertEqual(frames_behind(read(3, 2, numbers)),
                         [(2, (0, 5, 6, 0, 0, 0)), (3, (7, 8, 6, 9, 10, 0)), (4, (7, 8, 6, 9, 10, 0)),
                          (1, (7, 8, 6, 9, 10, 11))])

    def test_the_first_is_what_changed_from_a_page_of_0s(self):
        made = [page(2, 1), box(0, 0, 0, 2, 1, 9)]
        self.assertEqual(frames_behind(*made, read(2, 1, [1, 1, 0, 1, 1, 4])), [(1, (0, 4))])
        self.assertEqual(frames_behind(*made, read(2, 1, BLANK)), [(1, (0, 0))])

    def test_rows_in_the_box(self):
        numbers = [1, 1, 2, 2, 3, 1, 2, 3, 4, 5, 6]
        self.assertEqual(last(read(4, 6, numbers), shown(0)),
                         [0, 0, 0, 0, 0, 0, 0, 0, 0, 1, 2, 0, 0, 3, 4, 0, 0, 5, 6, 0, 0, 0, 0, 0])

    def test_the_size_of_the_page(self):
        for w in range(1, 7):
            for h in range(1, 7):
                self.assertEqual(ask(read(w, h, BLANK), listed(), shown(0)), [[1, 1], [w, h, 0, 1, 1], [0] * (w * h)])

    def test_bad_size(self):
        for w, h in ((0, 1), (1, 0), (0, 0), (7, 1), (1, 7), (7, 7), (MOST, 1), (1, MOST), (MOST, MOST)):
            self.assertEqual(last(read(w, h, BLANK)), [-1], (w, h))

    def test_bad_size_ahead_of_the_others(self):
        for numbers in ([], [1], [0, 0, 0, 0, 0], BLANK * 13, [1000, 0, 0, 0, 0] * 2, [1, 9, 9, 9, 9]):
            self.assertEqual(ask(read(0, 1, numbers), read(6, 7, numbers)), [[-1], [-1]], numbers)

    def test_ticks_of_a_frame(self):
        for count in (0, 1001, MOST):
            self.assertEqual(last(read(1, 1, [count, 0, 0, 0, 0])), [-3], count)
            self.assertEqual(last(read(1, 1, BLANK + [count, 0, 0, 0, 0])), [-3], count)
        for count in (1, 2, 999, 1000):
            self.assertEqual(last(read(1, 1, [count, 0, 0, 0, 0])), [1, count])

    def test_a_box_to_the_right_of_the_page(self):
        for x, u in ((0, 4), (1, 3), (2, 2), (3, 1), (4, 1), (MOST, 1), (0, MOST), (1, MOST), (MOST, MOST)):
            self.assertEqual(last(read(3, 2, [1, x, 0, u, 1] + [5] * 12)), [-3], (x, u))
            self.assertEqual(last(read(3, 2, [1, x, 0, u, 1] + [5] * min(u, 500))), [-3], (x, u))

    def test_a_box_below_the_page(self):
        for y, v in ((0, 3), (1, 2), (2, 1), (3, 1), (MOST, 1), (0, MOST), (1, MOST), (MOST, MOST)):
            self.assertEqual(last(read(3, 2, [1, 0, y, 1, v] + [5] * 12)), [-3], (y, v))
            self.assertEqual(last(read(3, 2, [1, 0, y, 1, v] + [5] * min(v, 500))), [-3], (y, v))

    def test_columns_and_rows_are_not_taken_for_each_other(self):
        self.assertEqual(last(read(3, 2, [1, 2, 0, 1, 2, 5, 6])), [1, 1])
        self.assertEqual(last(read(2, 3, [1, 2, 0, 1, 2, 5, 6])), [-3])
        self.assertEqual(last(read(2, 3, [1, 0, 2, 2, 1, 5, 6])), [1, 1])
        self.assertEqual(last(read(3, 2, [1, 0, 2, 2, 1, 5, 6])), [-3])

    def test_a_box_to_the_pages_edge(self):
        for x in range(3):
            for y in range(2):
                u, v = 3 - x, 2 - y
                self.assertEqual(last(read(3, 2, [1, x, y, u, v] + [5] * (u * v))), [1, 1])

    def test_all_of_the_largest_page(self):
        cells = list(range(200, 236))
        self.assertEqual(ask(read(6, 6, [1000, 0, 0, 6, 6] + cells), shown(9)), [[1, 1000], cells])

    def test_fewer_than_five_numbers_left(self):
        for left in range(1, 5):
            self.assertEqual(last(read(1, 1, [1, 0, 0, 0, 0][:left])), [-3], left)
            self.assertEqual(last(read(1, 1, BLANK + [1, 0, 0, 0, 0][:left])), [-3], left)
            self.assertEqual(last(read(2, 2, [1, 0, 0, 1, 2, 7, 8] + [1] * left)), [-3], left)

    def test_fewer_numbers_than_cells(self):
        for left in range(6):
            self.assertEqual(last(read(3, 2, [1, 0, 0, 3, 2] + [5] * left)), [-3], left)
            self.assertEqual(last(read(3, 2, BLANK + [1, 0, 0, 3, 2] + [5] * left)), [-3], left)
        self.assertEqual(last(read(3, 2, [1, 0, 0, 3, 2] + [5] * 6)), [1, 1])

    def test_more_numbers_than_cells_are_a_frame_more(self):
        self.assertEqual(last(read(1, 1, [1, 0, 0, 1, 1, 5, 1])), [-3])
        self.assertEqual(last(read(1, 1, [1, 0, 0, 1, 1, 5, 1, 0, 0, 0, 0])), [2, 2])

    def test_a_cells_number(self):
        for number in (256, 257, MOST):
            self.assertEqual(last(read(1, 1, [1, 0, 0, 1, 1, number])), [-3])
            self.assertEqual(last(read(2, 2, BLANK + [1, 0, 0, 2, 2, 1, 2, 3, number])), [-3])
            self.assertEqual(last(read(2, 2, BLANK + [1, 0, 0, 2, 2, number, 2, 3, 4] + BLANK)), [-3])
        for number in (0, 1, 254, 255):
            self.assertEqual(ask(read(1, 1, [1, 0, 0, 1, 1, number]), shown(0)), [[1, 1], [number]])

    def test_a_box_larger_than_it_must_be(self):
        self.assertEqual(ask(read(3, 2, [1, 0, 0, 3, 2, 0, 0, 0, 0, 7, 0, 2, 0, 0, 2, 2, 0, 0, 0, 7]), told()),
                         [[2, 3], [1, 1, 1, 1, 1, 7, 2, 0, 0, 0, 0]])

    def test_a_box_without_cells_has_no_numbers(self):
        for x, y, u, v in ((0, 0, 0, 0), (0, 0, 3, 0), (0, 0, 0, 2), (1, 1, 0, 1), (1, 1, 2, 0), (2, 0, 1, 0)):
            self.assertEqual(last(read(3, 2, [1, x, y, u, v])), [1, 1], (x, y, u, v))
            self.assertEqual(frames_behind(read(3, 2, [1, x, y, u, v, 2, 0, 0, 1, 1, 9])),
                             [(1, (0,) * 6), (2, (9,) + (0,) * 5)], (x, y, u, v))

    def test_a_box_without_cells_on_the_pages_edge(self):
        for x, y, u, v in ((3, 0, 0, 0), (3, 0, 0, 2), (0, 2, 0, 0), (0, 2, 3, 0), (3, 2, 0, 0), (3, 1, 0, 1),
                           (2, 2, 1, 0)):
            self.assertEqual(ask(read(3, 2, [4, x, y, u, v]), told()), [[1, 4], [4, 0, 0, 0, 0]], (x, y, u, v))

    def test_a_box_without_cells_beyond_the_page(self):
        for x, y, u, v in ((4, 0, 0, 0), (0, 3, 0, 0), (0, 0, 4, 0), (0, 0, 0, 3), (3, 0, 1, 0), (0, 2, 0, 1),
                           (0, 0, 0, MOST), (0, 0, MOST, 0), (MOST, 0, 0, 0), (0, MOST, 0, 0)):
            self.assertEqual(last(read(3, 2, [4, x, y, u, v])), [-3], (x, y, u, v))

    def test_no_frame(self):
        self.assertEqual(last(read(1, 1, [])), [-5])
        self.assertEqual(last(read(6, 6, [])), [-5])

    def test_how_many_frames(self):
        for count in range(1, 13):
            self.assertEqual(last(read(2, 1, BLANK * count)), [count, count])
        for count in (13, 14, 104):
            self.assertEqual(last(read(2, 1, BLANK * count)), [-5])

    def test_how_many_ticks_together(self):
        for first, second in ((1, 999), (500, 500), (999, 1)):
            self.assertEqual(last(read(1, 1, [first, 0, 0, 0, 0, second, 0, 0, 0, 0])), [2, 1000])
        for first, second in ((1, 1000), (1000, 1), (501, 500), (1000, 1000)):
            self.assertEqual(last(read(1, 1, [first, 0, 0, 0, 0, second, 0, 0, 0, 0])), [-5])
        self.assertEqual(last(read(1, 1, [83, 0, 0, 0, 0] * 11 + [87, 0, 0, 0, 0])), [12, 1000])
        self.assertEqual(last(read(1, 1, [83, 0, 0, 0, 0] * 11 + [88, 0, 0, 0, 0])), [-5])

    def test_numbers_that_are_no_frames_ahead_of_too_many(self):
        wrong = ([0, 0, 0, 0, 0], [1001, 0, 0, 0, 0], [1, 0, 0, 2, 1, 1, 1], [1, 0, 0, 1, 1], [1, 0, 0, 1, 1, 256],
                 [1, 0, 0, 0], [1, 0, 2, 0, 0])
        for numbers in wrong:
            for many in (BLANK * 12, BLANK * 13, BLANK * 20, [1000, 0, 0, 0, 0] * 2, [600, 0, 0, 0, 0] * 14):
                self.assertEqual(last(read(1, 1, many + numbers)), [-3], (numbers, many))
            if len(numbers) == 5 and numbers[3] == 0:
                self.assertEqual(last(read(1, 1, numbers + BLANK * 13)), [-3], numbers)

    def test_as_many_numbers_as_are_handed_in(self):
        full = [83, 0, 0, 6, 6] + list(range(1, 37))
        numbers = full * 12
        self.assertEqual(len(numbers), 492)
        self.assertEqual(last(read(6, 6, numbers)), [12, 996])
        self.assertEqual(last(read(6, 6, numbers + [1, 0, 0, 0, 0] * 5 + [1, 2, 3])), [-3])
        self.assertEqual(last(read(6, 6, BLANK * 104)), [-5])

    def test_it_goes_on_as_before(self):
        for k in (0, 1, 2):
            self.assertEqual(last(loop(k), read(2, 1, BLANK * 2), listed()), [2, 1, k, 2, 1, 1])

    def test_what_follows_in_the_list_is_the_next_call(self):
        self.assertEqual(ask(read(1, 1, []), put(0), read(9, 9, [1, 2, 3]), put(0), read(1, 1, [1, 2]), listed()),
                         [[-5], [2, 2], [-1], [3, 3], [-3], [1, 1, 0, 3, 1, 1, 1]])

    def test_it_can_be_undone_with_the_pages_size(self):
        made = [page(3, 2), put(0), box(1, 1, 1, 1, 1, 7), ticks(0, 4), loop(2)]
        for w, h in ((3, 2), (2, 3), (1, 1), (6, 6)):
            found = ask(*made, read(w, h, BLANK), undo())
            self.assertEqual(found[-2:], [[1, 1], [2, 5]])
            self.assertEqual(seen(*made, read(w, h, BLANK), undo()), seen(*made))
            self.assertEqual(seen_back(*made, read(w, h, BLANK))[1:], seen_back(*made))

    def test_read_and_changed(self):
        self.assertEqual(ask(read(2, 1, BLANK + [3, 0, 0, 1, 1, 5]), box(0, 1, 0, 1, 1, 8), turn(), told())[1:],
                         [[2, 4], [2, 4], [3, 0, 0, 1, 1, 5, 1, 0, 0, 2, 1, 0, 8]])

    def test_refused_all_is_as_it_was(self):
        made = [page(3, 2), put(0), box(1, 1, 1, 1, 1, 7), ticks(0, 4), loop(1)]
        for bad in (read(0, 1, BLANK), read(2, 2, [0]), read(2, 2, BLANK + [1, 0, 0, 2, 2, 1]), read(2, 2, []),
                    read(2, 2, BLANK * 13), read(1, 1, [1000, 0, 0, 0, 0] * 2), read(2, 2, [1, 0, 0, 1, 1, 256])):
            self.assertEqual(seen_back(*made, bad), seen_back(*made))


if __name__ == "__main__":
    unittest.main()
