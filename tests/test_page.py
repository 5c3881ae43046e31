import unittest

from wording import MOST, ask, box, drop, film_behind, last, loop, page, put, state_of, stretch, ticks, together


class PageTest(unittest.TestCase):
    def test_every_size(self):
        for w in range(1, 7):
            for h in range(1, 7):
                self.assertEqual(last(page(w, h)), [1, 1])
                film = film_behind(page(w, h))
                self.assertEqual(state_of(film), (w, h, 0, ((1, (0,) * (w * h)),), ()))

    def test_sizes_refused(self):
        for bad in (0, 7, 8, 256, MOST):
            for good in (1, 4, 6):
                self.assertEqual(last(page(bad, good)), [-1])
                self.assertEqual(last(page(good, bad)), [-1])
            self.assertEqual(last(page(bad, bad)), [-1])

    def test_both_sizes_are_looked_at(self):
        self.assertEqual(last(page(0, MOST)), [-1])
        self.assertEqual(last(page(7, 0)), [-1])

    def test_frames_before_it_are_gone(self):
        self.assertEqual(
            ask(put(0), ticks(1, 5), put(1), page(2, 2), put(1), drop(0), stretch(0, 1), stretch(0, 2)),
            [[2, 2], [2, 6], [3, 11], [1, 1], [-2], [-5], [1, 1], [-3]])

    def test_cells_before_it_are_gone(self):
        # The frame is all 0: set to 0 beside its double, the two stay alike.
        self.assertEqual(last(page(2, 2), box(0, 0, 0, 2, 2, 9), page(2, 2), put(0),
                              box(1, 0, 0, 2, 2, 0), together()), [1, 2])

    def test_how_it_goes_on_is_0_again(self):
        self.assertEqual(film_behind(loop(2), page(3, 1)).goes_on, 0)

    def test_nothing_can_be_undone_behind_it(self):
        self.assertEqual(film_behind(put(0), loop(1), page(1, 1)).past, [])

    def test_a_refused_page_leaves_the_film(self):
        made = [page(3, 2), put(0), box(1, 0, 0, 1, 1, 7), ticks(1, 9), loop(1)]
        for bad in (page(0, 1), page(1, 0), page(7, 6), page(6, MOST)):
            self.assertEqual(state_of(film_behind(*made, bad)), state_of(film_behind(*made)))

    def test_the_film_at_the_beginning(self):
        self.assertEqual(state_of(film_behind()), (1, 1, 0, ((1, (0,)),), ()))
        self.assertEqual(ask(put(1), stretch(0, 2), stretch(0, 1)), [[-2], [-3], [1, 1]])


if __name__ == "__main__":
    unittest.main()
