import unittest
from itertools import groupby

from wording import MOST, ask, film_behind, frames_behind, last, loop, marked, page, put, state_of, stretch, ticks

FILM = [(3, 1), (1, 2), (4, 2), (2, 1)]
MADE = marked(FILM)


def cut(a, m):
    shown = [(i, cell) for i, (count, cell) in enumerate(FILM) for tick in range(count)]
    return [(len(list(own)), (key[1],)) for key, own in groupby(shown[a:a + m])]


class StretchTest(unittest.TestCase):
    def test_every_stretch(self):
        for a in range(10):
            for m in range(1, 11 - a):
                wanted = cut(a, m)
                self.assertEqual(frames_behind(*MADE, stretch(a, m)), wanted, (a, m))
                self.assertEqual(last(*MADE, stretch(a, m)), [len(wanted), m], (a, m))

    def test_between_frames(self):
        self.assertEqual(frames_behind(*MADE, stretch(3, 5)), [(1, (2,)), (4, (2,))])

    def test_begun_and_ended_within_a_frame(self):
        self.assertEqual(frames_behind(*MADE, stretch(1, 5)), [(2, (1,)), (1, (2,)), (2, (2,))])
        self.assertEqual(frames_behind(*MADE, stretch(5, 5)), [(3, (2,)), (2, (1,))])

    def test_within_one_frame(self):
        self.assertEqual(frames_behind(*MADE, stretch(5, 2)), [(2, (2,))])
        self.assertEqual(frames_behind(*MADE, stretch(9, 1)), [(1, (1,))])
        self.assertEqual(ask(ticks(0, 1000), stretch(500, 7)), [[1, 1000], [1, 7]])

    def test_alike_neighbours_are_not_put_together(self):
        self.assertEqual(last(*MADE, stretch(3, 2)), [2, 2])

    def test_all_ticks(self):
        self.assertEqual(frames_behind(*MADE, stretch(0, 10)), frames_behind(*MADE))
        self.assertEqual(last(stretch(0, 1)), [1, 1])
        self.assertEqual(last(ticks(0, 1000), stretch(0, 1000)), [1, 1000])

    def test_no_ticks(self):
        for a in (0, 1, 9, 10, 11, MOST):
            self.assertEqual(last(*MADE, stretch(a, 0)), [-3])

    def test_beyond_all_ticks(self):
        for a in range(10):
            self.assertEqual(last(*MADE, stretch(a, 10 - a)), [len(cut(a, 10 - a)), 10 - a])
            self.assertEqual(last(*MADE, stretch(a, 11 - a)), [-3])
        for a, m in ((10, 1), (11, 1), (MOST, 1), (0, MOST), (1, MOST), (MOST, MOST)):
            self.assertEqual(last(*MADE, stretch(a, m)), [-3])

    def test_going_round_there_are_no_more_ticks(self):
        for k in (0, 1, 2):
            self.assertEqual(ask(*MADE, loop(k), stretch(0, 11), stretch(9, 2), stretch(8, 2))[-3:],
                             [[-3], [-3], [1, 2]])
            self.assertEqual(film_behind(*MADE, loop(k), stretch(2, 4)).goes_on, k)

    def test_a_stretch_of_a_stretch(self):
        self.assertEqual(ask(*MADE, stretch(2, 7), stretch(1, 6), stretch(5, 1), stretch(1, 1))[-4:],
                         [[4, 7], [3, 6], [1, 1], [-3]])

    def test_a_stretch_makes_room(self):
        self.assertEqual(ask(*[put(0)] * 11, put(0), stretch(0, 11), put(0))[-3:], [[-5], [11, 11], [12, 12]])

    def test_refused_all_is_as_it_was(self):
        made = [page(1, 2), put(0), ticks(0, 30)]
        for bad in (stretch(0, 0), stretch(0, 32), stretch(31, 1), stretch(MOST, MOST)):
            self.assertEqual(state_of(film_behind(*made, bad)), state_of(film_behind(*made)))


if __name__ == "__main__":
    unittest.main()
