"""The program against films told tick by tick, on all short ways through a choice of calls."""

import unittest
from itertools import product

from tick_model import Model
from wording import (MOST, answer_calls, ask, between, box, bring, drop, joined, listed, loop, page, place, put, read,
                     shown, split_answers, state_of, stretch, ticks, together, told, turn, undo)
from filmframes.film import Film

BEGUN = [
    [],
    [page(2, 2), put(0), box(1, 1, 0, 1, 2, 5), ticks(1, 3), put(1), put(0)],
    [page(3, 1)] + [put(0)] * 10 + [box(3, 0, 0, 2, 1, 9), ticks(5, 985)],
]
CHANGES = [
    page(2, 3), put(0), put(1), drop(0), drop(2), box(0, 0, 0, 1, 1, 5), box(1, 1, 0, 9, 9, 6), ticks(0, 2),
    ticks(1, 900), loop(1), loop(2), turn(), together(), stretch(0, 2), stretch(1, 3), bring(3), bring(7), bring(1000),
    read(1, 2, [3, 0, 0, 1, 2, 7, 8, 2, 0, 1, 1, 1, 255]), undo(),
]
REFUSED = [
    page(7, 1), put(5), drop(11), box(2, 0, 0, 1, 1, 256), ticks(0, 0), loop(3), stretch(2, 985), stretch(1, MOST),
    bring(0), bring(1001), read(0, 1, []), read(1, 1, [0]), read(1, 1, []), read(1, 1, [501, 0, 0, 0, 0] * 2),
]
QUESTIONS = [
    shown(0), shown(3), shown(7), shown(MOST), between(1), between(2), between(3), between(9), between(MOST),
    place(1), place(6), place(10), place(MOST), told(), listed(),
]
CALLS = CHANGES + REFUSED + QUESTIONS


class ModelTest(unittest.TestCase):
    def hold(self, calls):
        film = Film()
        found = split_answers(answer_calls(film, joined(calls)))
        model = Model()
        self.assertEqual(found, [model.answer(call) for call in calls], calls)
        self.assertEqual(state_of(film), model.state() + (tuple(model.past),), calls)

    def test_all_ways_of_two_calls(self):
        for begun in BEGUN[:2]:
            for way in product(CALLS, repeat=2):
                self.hold(begun + list(way))

    def test_all_ways_of_two_changes_of_a_long_film(self):
        for way in product(CHANGES, repeat=2):
            self.hold(BEGUN[2] + list(way))

    def test_all_ways_of_three_changes_of_a_small_film(self):
        for way in product([call for call in CHANGES if call not in (ticks(1, 900), bring(1000))], repeat=3):
            self.hold(BEGUN[1] + list(way))

    def test_each_question_behind_each_way_of_going_on(self):
        for begun in BEGUN:
            for k, question in product(range(3), QUESTIONS):
                self.hold(begun + [loop(k), question])

    def test_long_ways(self):
        for step in range(1, len(CALLS)):
            way = [CALLS[(step * i * i + i) % len(CALLS)] for i in range(34)]
            self.hold(BEGUN[1] + way)
            self.hold(BEGUN[2] + [call for call in way if call[0] != 0][:27])

    def test_forty_calls_are_answered_one_by_one(self):
        self.assertEqual(len(ask(*CALLS[:40])), 40)


if __name__ == "__main__":
    unittest.main()
