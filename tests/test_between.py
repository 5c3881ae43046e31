"""What lies between two frames at a tick."""

import unittest

from wording import MOST, ask, between, box, last, loop, marked, page, put, read, seen_back, shown, ticks

FILM = [(3, 10), (2, 40), (5, 7)]
ASKED = [0, 9, 10, 11, 19, 20, MOST]


def cells_at(made, asked_ticks):
    """Of a film with one cell: what lies between at each of the ticks."""
    return [last(*made, between(t))[0] for t in asked_ticks]


def mixed(a, b, k, d):
    """One cell, k ticks into a frame of d."""
    return last(*marked([(d, a), (1, b)]), between(k))[0]


class BetweenTest(unittest.TestCase):
    def test_in_the_first_tick_it_is_the_frame_itself(self):
        for t in (0, 3, 5):
            self.assertEqual(last(*marked(FILM), between(t)), last(*marked(FILM), shown(t)))

    def test_all_ticks_of_a_film_that_stays(self):
        self.assertEqual(cells_at(marked(FILM), range(10)), [10, 20, 30, 40, 24, 7, 7, 7, 7, 7])

    def test_all_ticks_of_a_film_that_goes_round(self):
        self.assertEqual(cells_at(marked(FILM) + [loop(1)], range(10)), [10, 20, 30, 40, 24, 7, 8, 8, 9, 9])

    def test_all_ticks_of_a_film_that_goes_there_and_back(self):
        there = [10, 20, 30, 40, 24, 7, 7, 7, 7, 7]
        self.assertEqual(cells_at(marked(FILM) + [loop(2)], range(20)), there + there[::-1])

    def test_beyond(self):
        wanted = {0: [10, 7, 7, 7, 7, 7, 7], 1: [10, 9, 10, 20, 9, 10, 7], 2: [10, 7, 7, 7, 10, 10, 24]}
        for k in (0, 1, 2):
            self.assertEqual(cells_at(marked(FILM) + [loop(k)], ASKED), wanted[k], k)

    def test_one_frame(self):
        for k in (0, 1, 2):
            made = [page(2, 1), box(0, 1, 0, 1, 1, 255), ticks(0, 10), loop(k)]
            for t in ASKED + [1, 5]:
                self.assertEqual(last(*made, between(t)), [0, 255], (k, t))
            self.assertEqual([last(loop(k), between(t)) for t in (0, 1, 2, 3, MOST)], [[0]] * 5)

    def test_the_last_frame_of_several(self):
        made = marked([(1, 0), (4, 100)])
        self.assertEqual(cells_at(made, range(1, 5)), [100, 100, 100, 100])
        self.assertEqual(cells_at(made + [loop(1)], range(1, 5)), [100, 75, 50, 25])
        self.assertEqual(cells_at(made + [loop(2)], range(1, 9)), [100] * 8)

    def test_behind_the_last_comes_the_first_and_not_the_next_to_last(self):
        self.assertEqual(cells_at(marked([(1, 0), (1, 200), (2, 100)]) + [loop(1)], [2, 3]), [100, 50])

    def test_going_back_it_still_goes_by_the_next_frame(self):
        made = marked([(4, 0), (4, 100), (1, 200)]) + [loop(2)]
        self.assertEqual(cells_at(made, range(9)), [0, 25, 50, 75, 100, 125, 150, 175, 200])
        self.assertEqual(cells_at(made, range(9, 18)), [200, 175, 150, 125, 100, 75, 50, 25, 0])

    def test_frames_of_one_tick_have_nothing_between(self):
        self.assertEqual(cells_at(marked([(1, 9), (1, 90), (1, 30)]) + [loop(1)], range(4)), [9, 90, 30, 9])

    def test_rounded_down(self):
        self.assertEqual([mixed(0, 1, 1, 3), mixed(1, 0, 2, 3), mixed(10, 17, 1, 5), mixed(17, 10, 4, 5)],
                         [0, 0, 11, 11])

    def test_rounded_up(self):
        self.assertEqual([mixed(0, 1, 2, 3), mixed(1, 0, 1, 3), mixed(10, 18, 1, 5), mixed(18, 10, 4, 5)],
                         [1, 1, 12, 12])

    def test_of_two_as_near_the_greater(self):
        for a, b, greater in ((0, 1, 1), (1, 0, 1), (2, 1, 2), (0, 3, 2), (3, 0, 2), (0, 5, 3), (5, 0, 3), (2, 3, 3),
                              (255, 254, 255), (254, 255, 255), (0, 255, 128), (255, 0, 128)):
            self.assertEqual(mixed(a, b, 1, 2), greater, (a, b))
            self.assertEqual(mixed(a, b, 3, 6), greater, (a, b))
        self.assertEqual([mixed(0, 2, 1, 4), mixed(0, 2, 3, 4), mixed(2, 0, 1, 4), mixed(2, 0, 3, 4)], [1, 2, 2, 1])

    def test_long_frames(self):
        self.assertEqual([mixed(0, 255, k, 999) for k in (0, 1, 2, 499, 500, 997, 998)],
                         [0, 0, 1, 127, 128, 254, 255])
        self.assertEqual([mixed(255, 0, k, 999) for k in (0, 1, 2, 499, 500, 997, 998)],
                         [255, 255, 254, 128, 127, 1, 0])

    def test_each_cell_by_itself(self):
        numbers = [2, 0, 0, 3, 2, 0, 10, 20, 30, 40, 50, 1, 0, 0, 3, 2, 100, 10, 0, 31, 42, 255]
        self.assertEqual(ask(read(3, 2, numbers), between(1)), [[2, 3], [50, 10, 10, 31, 41, 153]])

    def test_alike_frames(self):
        self.assertEqual(cells_at(marked([(3, 77), (3, 77)]) + [loop(1)], range(6)), [77] * 6)

    def test_it_changes_nothing(self):
        for k in (0, 1, 2):
            made = marked([(2, 5), (3, 6)]) + [loop(k)]
            for t in (0, 1, 4, 5, 9, 10, MOST):
                self.assertEqual(seen_back(*made, between(t)), seen_back(*made))
        self.assertEqual(ask(put(0), between(1), between(1), shown(1))[1:], [[0], [0], [0]])


if __name__ == "__main__":
    unittest.main()
