"""What is shown at a tick, and where it is, for each way in which a film goes on."""

import unittest

from wording import (MOST, ask, bring, box, last, listed, loop, marked, page, place, put, read, seen_back, shown,
                     stretch, ticks, together, turn)

# The film has n = 10 ticks; asked are 0, n - 1, n, n + 1, 2 n - 1, 2 n and the greatest.
FILM = [(3, 10), (2, 40), (5, 7)]
ASKED = [0, 9, 10, 11, 19, 20, MOST]
LAST = [2, 4]
PLACES = {
    0: [[0, 0], LAST, LAST, LAST, LAST, LAST, LAST],
    1: [[0, 0], LAST, [0, 0], [0, 1], LAST, [0, 0], [2, 0]],
    2: [[0, 0], LAST, LAST, [2, 3], [0, 0], [0, 0], [1, 1]],
}
SHOWN = {0: [10, 7, 7, 7, 7, 7, 7], 1: [10, 7, 10, 10, 7, 10, 7], 2: [10, 7, 7, 7, 10, 10, 40]}


def asked(calls, question, asked_ticks):
    """A question for each of the ticks, in lists that aren't too long."""
    return [last(*calls, question(t)) for t in asked_ticks]


class PlaceTest(unittest.TestCase):
    def test_in_the_first_ticks(self):
        wanted = [[0, 0], [0, 1], [0, 2], [1, 0], [1, 1], [2, 0], [2, 1], [2, 2], [2, 3], [2, 4]]
        for k in (0, 1, 2):
            self.assertEqual(asked(marked(FILM) + [loop(k)], place, range(10)), wanted)

    def test_beyond(self):
        for k in (0, 1, 2):
            self.assertEqual(asked(marked(FILM) + [loop(k)], place, ASKED), PLACES[k], k)

    def test_there_and_back_all_the_way(self):
        made = marked(FILM) + [loop(2)]
        there = asked(made, place, range(10))
        self.assertEqual(asked(made, place, range(10, 40)), there[::-1] + there + there[::-1])

    def test_round_all_the_way(self):
        made = marked(FILM) + [loop(1)]
        self.assertEqual(asked(made, place, range(10, 30)), asked(made, place, range(10)) * 2)

    def test_one_frame_of_one_tick(self):
        for k in (0, 1, 2):
            self.assertEqual(asked([loop(k)], place, [0, 1, 2, 3, MOST - 1, MOST]), [[0, 0]] * 6)

    def test_one_frame_of_several_ticks(self):
        wanted = {0: [0, 9, 9, 9, 9, 9, 9], 1: [0, 9, 0, 1, 9, 0, 5], 2: [0, 9, 9, 8, 0, 0, 4]}
        for k in (0, 1, 2):
            self.assertEqual(asked([ticks(0, 10), loop(k)], place, ASKED), [[0, into] for into in wanted[k]])

    def test_most_frames_and_ticks(self):
        made = [read(1, 1, [83, 0, 0, 0, 0] * 11 + [87, 0, 0, 0, 0])]
        self.assertEqual(asked(made, place, [0, 82, 83, 912, 913, 999, 1000, MOST]),
                         [[0, 0], [0, 82], [1, 0], [10, 82], [11, 0], [11, 86], [11, 86], [11, 86]])
        self.assertEqual(asked(made + [loop(1)], place, [1000, 1000000, MOST]), [[0, 0], [0, 0], [3, 46]])
        self.assertEqual(asked(made + [loop(2)], place, [1000, 1000000, MOST]), [[11, 86], [0, 0], [8, 40]])

    def test_alike_neighbours_are_two_frames(self):
        self.assertEqual(ask(put(0), place(0), place(1))[1:], [[0, 0], [1, 0]])


class ShownTest(unittest.TestCase):
    def test_in_the_first_ticks(self):
        for k in (0, 1, 2):
            self.assertEqual(asked(marked(FILM) + [loop(k)], shown, range(10)),
                             [[10]] * 3 + [[40]] * 2 + [[7]] * 5)

    def test_beyond(self):
        for k in (0, 1, 2):
            self.assertEqual(asked(marked(FILM) + [loop(k)], shown, ASKED), [[cell] for cell in SHOWN[k]], k)

    def test_one_frame(self):
        for k in (0, 1, 2):
            made = [page(2, 2), box(0, 1, 0, 1, 2, 6), ticks(0, 10), loop(k)]
            self.assertEqual(asked(made, shown, ASKED), [[0, 6, 0, 6]] * 7)
            self.assertEqual(asked([loop(k)], shown, [0, 1, 2, MOST]), [[0]] * 4)

    def test_the_cells_row_by_row_without_a_count(self):
        self.assertEqual(ask(read(3, 2, [1, 0, 0, 3, 2, 1, 2, 3, 4, 5, 6]), shown(0)), [[1, 1], [1, 2, 3, 4, 5, 6]])

    def test_just_the_frame_in_whose_time_it_is(self):
        for k in (0, 1, 2):
            made = marked(FILM) + [loop(k)]
            for t in range(45):
                found = ask(*made, place(t), shown(t))
                self.assertEqual(found[-1], [FILM[found[-2][0]][1]])

    def test_at_tick_1000000(self):
        # Modulo 7 that's 1; modulo 14 it's 8, on the way back tick 5.
        self.assertEqual([last(*marked([(3, 1), (4, 2)]), loop(k), shown(1000000)) for k in (0, 1, 2)],
                         [[2], [1], [2]])

    def test_put_together_nothing_else_is_shown(self):
        for k in (0, 1, 2):
            made = marked([(2, 5), (1, 5), (3, 6), (1, 5), (1, 5)]) + [loop(k)]
            self.assertEqual(last(*made, together()), [3, 8])
            self.assertEqual(asked(made + [together()], shown, range(40)), asked(made, shown, range(40)))

    def test_a_stretch_shows_what_was_there(self):
        made = marked(FILM)
        self.assertEqual(asked(made + [stretch(2, 6)], shown, range(6)), asked(made, shown, range(2, 8)))

    def test_turned_it_is_shown_from_the_end(self):
        made = marked(FILM)
        self.assertEqual(asked(made + [turn()], shown, range(10)), asked(made, shown, range(10))[::-1])

    def test_brought_to_twice_the_ticks(self):
        made = marked(FILM)
        self.assertEqual(asked(made + [bring(20)], shown, range(0, 20, 2)), asked(made, shown, range(10)))
        self.assertEqual(asked(made + [bring(20)], shown, range(1, 20, 2)), asked(made, shown, range(10)))

    def test_the_questions_change_nothing(self):
        for k in (0, 1, 2):
            made = marked([(2, 5), (3, 6)]) + [loop(k)]
            for question in (shown, place):
                for t in (0, 4, 5, 9, 10, MOST):
                    self.assertEqual(seen_back(*made, question(t)), seen_back(*made))

    def test_the_film_stays_as_it_was_between_questions(self):
        self.assertEqual(ask(put(0), shown(MOST), listed(), place(MOST), listed())[1:],
                         [[0], [1, 1, 0, 2, 1, 1], [1, 0], [1, 1, 0, 2, 1, 1]])


if __name__ == "__main__":
    unittest.main()
