"""The program against films told tick by tick, on all short ways through a choice of calls."""

import unittest
from itertools import product

from tick_model import Model
from wording import (MOST, answer_calls, ask, box, drop, joined, loop, page, put, split_answers, state_of, stretch,
                     ticks, together, turn)
from filmframes.film import Film

BEGUN = [
    [],
    [page(2, 2), put(0), box(1, 1, 0, 1, 2, 5), ticks(1, 3), put(1), put(0)],
    [page(3, 1)] + [put(0)] * 10 + [box(3, 0, 0, 2, 1, 9), ticks(5, 985)],
]
CALLS = [
    page(2, 3), page(7, 1), put(0), put(1), put(5), drop(0), drop(2), drop(11), box(0, 0, 0, 1, 1, 5),
    box(1, 1, 0, 9, 9, 5), box(2, 0, 0, 1, 1, 256), ticks(0, 2), ticks(1, 900), ticks(0, 0), loop(2), loop(3),
    turn(), together(), stretch(0, 2), stretch(1, 3), stretch(2, 985), stretch(1, MOST),
]


class ModelTest(unittest.TestCase):
    def hold(self, calls):
        film = Film()
        found = split_answers(answer_calls(film, joined(calls)))
        model = Model()
        self.assertEqual(found, [model.answer(call) for call in calls], calls)
        self.assertEqual(state_of(film), model.state() + (tuple(model.past),), calls)

    def test_all_ways_of_two_calls(self):
        for begun in BEGUN:
            for way in product(CALLS, repeat=2):
                self.hold(begun + list(way))

    def test_all_ways_of_three_calls_from_a_small_film(self):
        for way in product(CALLS[:19], repeat=3):
            self.hold(BEGUN[1] + list(way))

    def test_long_ways(self):
        for step in range(1, len(CALLS)):
            way = [CALLS[(step * i * i + i) % len(CALLS)] for i in range(30)]
            self.hold(BEGUN[1] + way)
            self.hold(BEGUN[2] + [call for call in way if call[0] != 0][:27])

    def test_forty_calls_are_answered_one_by_one(self):
        self.assertEqual(len(ask(*[CALLS[i % len(CALLS)] for i in range(40)])), 40)


if __name__ == "__main__":
    unittest.main()
