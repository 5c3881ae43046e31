"""Films told tick by tick: slow and plain, and made otherwise than the program, to hold it against.

A film is a list with one (frame's name, cells) for each tick; a frame is all ticks of its name.
"""

from fractions import Fraction
from math import floor


class NotTold(Exception):
    pass


def rounded(number):
    return floor(number + Fraction(1, 2))


def least_box(changed):
    """By trying all boxes of a page of 6 by 6."""
    if not changed:
        return (0, 0, 0, 0)
    found = []
    for x in range(6):
        for y in range(6):
            for u in range(1, 7 - x):
                for v in range(1, 7 - y):
                    if all(x <= column < x + u and y <= row < y + v for column, row in changed):
                        found.append((u * v, (x, y, u, v)))
    return min(found)[1]


def take_numbers(numbers, count):
    if count > len(numbers):
        raise NotTold
    return [numbers.pop(0) for step in range(count)]


class Model:
    def __init__(self):
        self.names = 0
        self.past = []
        self.start(1, 1)

    def start(self, w, h):
        self.w, self.h, self.k = w, h, 0
        self.shown = [(self.new_name(), {(x, y): 0 for x in range(w) for y in range(h)})]
        self.past = []

    def new_name(self):
        self.names += 1
        return self.names

    def order(self):
        found = []
        for name, cells in self.shown:
            if name not in found:
                found.append(name)
        return found

    def take(self, shown, k=None):
        self.past.append(self.state())
        if len(self.past) > 8:
            self.past.pop(0)
        self.shown = shown
        self.k = self.k if k is None else k
        return [len(self.order()), len(self.shown)]

    def state(self):
        frames = []
        for name in self.order():
            own = [cells for other, cells in self.shown if other == name]
            rows = tuple(own[0][x, y] for y in range(self.h) for x in range(self.w))
            frames.append((len(own), rows))
        return (self.w, self.h, self.k, tuple(frames))

    def answer(self, call):
        return getattr(self, "call_%d" % call[0])(*call[1:])

    def call_0(self, w, h):
        if w not in range(1, 7) or h not in range(1, 7):
            return [-1]
        self.start(w, h)
        return [1, 1]

    def call_1(self, i):
        order = self.order()
        if i >= len(order):
            return [-2]
        if len(order) == 12:
            return [-5]
        own = [tick for tick in self.shown if tick[0] == order[i]]
        if len(self.shown) + len(own) > 1000:
            return [-6]
        behind = self.shown.index(own[0]) + len(own)
        name = self.new_name()
        return self.take(self.shown[:behind] + [(name, cells) for old, cells in own] + self.shown[behind:])

    def call_2(self, i):
        order = self.order()
        if i >= len(order):
            return [-2]
        if len(order) == 1:
            return [-5]
        return self.take([tick for tick in self.shown if tick[0] != order[i]])

    def call_3(self, i, x, y, u, v, n):
        order = self.order()
        if i >= len(order):
            return [-2]
        if n > 255:
            return [-3]
        shown = []
        for name, cells in self.shown:
            if name == order[i]:
                cells = dict(cells)
                for column, row in cells:
                    if column in range(x, x + u) and row in range(y, y + v):
                        cells[column, row] = n
            shown.append((name, cells))
        return self.take(shown)

    def call_4(self, i, n):
        order = self.order()
        if i >= len(order):
            return [-2]
        if n == 0:
            return [-3]
        if n + len([tick for tick in self.shown if tick[0] != order[i]]) > 1000:
            return [-6]
        shown = []
        for name in order:
            own = [tick for tick in self.shown if tick[0] == name]
            shown.extend([own[0]] * n if name == order[i] else own)
        return self.take(shown)

    def call_5(self, k):
        return [-3] if k > 2 else self.take(self.shown, k)

    def call_6(self):
        return self.take(self.shown[::-1])

    def call_7(self):
        shown = [self.shown[0]]
        for name, cells in self.shown[1:]:
            shown.append((shown[-1][0], cells) if shown[-1][1] == cells else (name, cells))
        return self.take(shown)

    def call_8(self, a, m):
        if m == 0 or a + m > len(self.shown):
            return [-3]
        return self.take(self.shown[a:a + m])

    def call_9(self, m):
        if m not in range(1, 1001):
            return [-3]
        shown = []
        for name in self.order():
            e = max(t for t, tick in enumerate(self.shown) if tick[0] == name) + 1
            end = rounded(Fraction(e * m, len(self.shown)))
            if end == len(shown):
                return [-6]
            own = [tick for tick in self.shown if tick[0] == name]
            shown += own[:1] * (end - len(shown))
        return self.take(shown)

    def call_10(self, w, h, count, *numbers):
        if w not in range(1, 7) or h not in range(1, 7):
            return [-1]
        try:
            frames = self.frames_told(w, h, list(numbers))
        except NotTold:
            return [-3]
        if len(frames) not in range(1, 13) or sum(count for count, cells in frames) > 1000:
            return [-5]
        self.take(self.shown)
        self.lay(w, h, self.k, frames)
        return [len(self.order()), len(self.shown)]

    def frames_told(self, w, h, numbers):
        frames = []
        cells = {(x, y): 0 for x in range(w) for y in range(h)}
        while numbers:
            count, x, y, u, v = take_numbers(numbers, 5)
            if count not in range(1, 1001) or x + u > w or y + v > h:
                raise NotTold
            cells = dict(cells)
            for row in range(y, y + v):
                for column in range(x, x + u):
                    cells[column, row] = take_numbers(numbers, 1)[0]
            if max(cells.values()) > 255:
                raise NotTold
            frames.append((count, cells))
        return frames

    def lay(self, w, h, k, frames):
        self.w, self.h, self.k = w, h, k
        self.shown = []
        for count, cells in frames:
            self.shown += [(self.new_name(), cells)] * count

    def call_11(self):
        if not self.past:
            return [-4]
        w, h, k, frames = self.past.pop()
        places = [(x, y) for y in range(h) for x in range(w)]
        self.lay(w, h, k, [(count, dict(zip(places, rows))) for count, rows in frames])
        return [len(self.order()), len(self.shown)]

    def own(self, t):
        n = len(self.shown)
        if self.k == 0:
            return t if t < n else n - 1
        way = list(range(n)) + (list(range(n))[::-1] if self.k == 2 else [])
        return way[t % len(way)]

    def rows(self, cells):
        return [cells[x, y] for y in range(self.h) for x in range(self.w)]

    def call_12(self, t):
        return self.rows(self.shown[self.own(t)][1])

    def call_13(self, t):
        i, into = self.call_14(t)
        order = self.order()
        if i + 1 < len(order):
            j = i + 1
        else:
            j = 0 if self.k == 1 else i
        ticks = [[self.rows(cells) for name, cells in self.shown if name == order[frame]] for frame in (i, j)]
        part = Fraction(into, len(ticks[0]))
        return [rounded((1 - part) * a + part * b) for a, b in zip(ticks[0][0], ticks[1][0])]

    def call_14(self, t):
        names = [name for name, cells in self.shown[:self.own(t) + 1]]
        return [len(set(names)) - 1, names.count(names[-1]) - 1]

    def call_15(self):
        found = []
        before = {}
        for name in self.order():
            count = len([tick for tick in self.shown if tick[0] == name])
            cells = dict(self.shown)[name]
            x, y, u, v = least_box([spot for spot in cells if cells[spot] != before.get(spot, 0)])
            found += [count, x, y, u, v] + [cells[c, r] for r in range(y, y + v) for c in range(x, x + u)]
            before = cells
        return found

    def call_16(self):
        counts = [count for count, cells in self.state()[3]]
        return [self.w, self.h, self.k, len(counts)] + counts
