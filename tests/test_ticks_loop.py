import unittest

from wording import MOST, ask, film_behind, frames_behind, last, loop, marked, page, put, state_of, ticks


class TicksTest(unittest.TestCase):
    def test_that_frame_has_them(self):
        made = marked([(3, 1), (4, 2), (5, 3)])
        self.assertEqual(frames_behind(*made, ticks(1, 9)), [(3, (1,)), (9, (2,)), (5, (3,))])
        self.assertEqual(last(*made, ticks(0, 1)), [3, 10])
        self.assertEqual(last(*made, ticks(2, 50)), [3, 57])

    def test_none_is_refused_one_is_not(self):
        self.assertEqual(ask(ticks(0, 0), ticks(0, 1)), [[-3], [1, 1]])

    def test_just_1000_alone(self):
        self.assertEqual(ask(ticks(0, 1000), ticks(0, 1001), ticks(0, MOST)), [[1, 1000], [-6], [-6]])

    def test_just_1000_together(self):
        self.assertEqual(ask(put(0), ticks(0, 400), ticks(1, 600), ticks(1, 601), ticks(0, 401), ticks(1, 599)),
                         [[2, 2], [2, 401], [2, 1000], [-6], [-6], [2, 999]])

    def test_the_frames_own_ticks_do_not_count_twice(self):
        self.assertEqual(ask(ticks(0, 1000), ticks(0, 1000), ticks(0, 999)), [[1, 1000], [1, 1000], [1, 999]])

    def test_twelve_frames(self):
        twelve = [put(0)] * 11
        self.assertEqual(ask(*twelve, ticks(11, 989), ticks(11, 990))[-2:], [[12, 1000], [-6]])

    def test_no_such_frame(self):
        self.assertEqual(last(ticks(1, 5)), [-2])
        for i in (2, 3, MOST):
            self.assertEqual(last(put(0), ticks(i, 5)), [-2])

    def test_the_refusal_told_first(self):
        self.assertEqual(last(ticks(1, 0)), [-2])
        self.assertEqual(last(ticks(1, 1001)), [-2])
        self.assertEqual(last(ticks(MOST, MOST)), [-2])

    def test_refused_all_is_as_it_was(self):
        made = [page(1, 2), put(0), ticks(0, 30)]
        for bad in (ticks(2, 5), ticks(0, 0), ticks(1, 971)):
            self.assertEqual(state_of(film_behind(*made, bad)), state_of(film_behind(*made)))


class LoopTest(unittest.TestCase):
    def test_three_ways(self):
        made = [put(0), ticks(1, 4)]
        for k in (0, 1, 2):
            self.assertEqual(last(*made, loop(k)), [2, 5])
            self.assertEqual(film_behind(*made, loop(k)).goes_on, k)
            self.assertEqual(film_behind(*made, loop(2), loop(k)).goes_on, k)

    def test_no_other_way(self):
        for k in (3, 4, 255, MOST):
            self.assertEqual(last(loop(k)), [-3])

    def test_the_frames_stay(self):
        made = marked([(3, 1), (4, 2)])
        self.assertEqual(frames_behind(*made, loop(2)), frames_behind(*made))

    def test_other_changes_leave_it(self):
        self.assertEqual(film_behind(loop(2), put(0), ticks(0, 3)).goes_on, 2)

    def test_refused_all_is_as_it_was(self):
        made = [put(0), loop(1)]
        self.assertEqual(state_of(film_behind(*made, loop(3))), state_of(film_behind(*made)))


if __name__ == "__main__":
    unittest.main()
