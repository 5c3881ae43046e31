"""What is kept for undoing: the film as it was ahead of each of the last 8 changes."""

import unittest

from wording import (box, bring, drop, film_behind, frames_of, loop, page, put, read, state_of, stretch, ticks,
                     together, turn, undo)

MADE = [page(2, 1), put(0), box(1, 0, 0, 1, 1, 5), ticks(0, 3), loop(1)]
CHANGES = [put(1), drop(0), box(0, 0, 0, 2, 1, 8), ticks(1, 7), loop(2), turn(), together(), stretch(1, 2), bring(9),
           read(1, 3, [4, 0, 0, 1, 1, 9])]
REFUSED = [page(0, 0), put(2), drop(2), box(0, 0, 0, 1, 1, 256), ticks(0, 0), loop(3), stretch(0, 0), bring(0), bring(1),
           read(1, 1, []), read(0, 0, []), read(1, 1, [1])]


def now(film):
    return state_of(film)[:4]


def past(film):
    return list(state_of(film)[4])


class PastTest(unittest.TestCase):
    def test_each_change_is_kept(self):
        before = film_behind(*MADE)
        for change in CHANGES:
            self.assertEqual(past(film_behind(*MADE, change)), past(before) + [now(before)], change)

    def test_a_change_that_alters_nothing_is_a_change_too(self):
        for change in (loop(0), turn(), together(), stretch(0, 1), ticks(0, 1), box(0, 0, 0, 0, 0, 1)):
            film = film_behind(change)
            self.assertEqual(past(film), [now(film_behind())], change)

    def test_a_refusal_keeps_nothing(self):
        before = film_behind(*MADE)
        for call in REFUSED:
            self.assertEqual(past(film_behind(*MADE, call)), past(before), call)

    def test_eight_at_the_most(self):
        for count in range(12):
            calls = [ticks(0, 2 + i) for i in range(count)]
            wanted = [now(film_behind(*calls[:i])) for i in range(max(0, count - 8), count)]
            self.assertEqual(past(film_behind(*calls)), wanted)

    def test_an_undo_takes_the_last_away(self):
        before = film_behind(*MADE)
        for change in CHANGES:
            film = film_behind(*MADE, change, undo())
            self.assertEqual(state_of(film), state_of(before), change)

    def test_a_page_forgets_all(self):
        self.assertEqual(past(film_behind(*MADE, page(2, 1))), [])
        self.assertEqual(past(film_behind(*MADE, page(2, 1), turn())), [(2, 1, 0, ((1, (0, 0)),))])

    def test_later_changes_leave_what_is_kept(self):
        film = film_behind(*MADE, *CHANGES[:3])
        self.assertEqual(frames_of(film.past[-1][3]), now(film_behind(*MADE, *CHANGES[:2]))[3])


if __name__ == "__main__":
    unittest.main()
