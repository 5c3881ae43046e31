"""Films told tick by tick: slow and plain, and made otherwise than the program, to hold it against.

A film is a list with one (frame's name, cells) for each tick; a frame is all ticks of its name.
"""


class Model:
    def __init__(self):
        self.names = 0
        self.past = []
        self.start(1, 1)

    def start(self, w, h):
        self.w, self.h, self.k = w, h, 0
        self.shown = [(self.new_name(), {(x, y): 0 for x in range(w) for y in range(h)})]
        self.past = []

    def new_name(self):
        self.names += 1
        return self.names

    def order(self):
        found = []
        for name, cells in self.shown:
            if name not in found:
                found.append(name)
        return found

    def take(self, shown, k=None):
        self.past.append(self.state())
        if len(self.past) > 8:
            self.past.pop(0)
        self.shown = shown
        self.k = self.k if k is None else k
        return [len(self.order()), len(self.shown)]

    def state(self):
        frames = []
        for name in self.order():
            own = [cells for other, cells in self.shown if other == name]
            rows = tuple(own[0][x, y] for y in range(self.h) for x in range(self.w))
            frames.append((len(own), rows))
        return (self.w, self.h, self.k, tuple(frames))

    def answer(self, call):
        return getattr(self, "call_%d" % call[0])(*call[1:])

    def call_0(self, w, h):
        if w not in range(1, 7) or h not in range(1, 7):
            return [-1]
        self.start(w, h)
        return [1, 1]

    def call_1(self, i):
        order = self.order()
        if i >= len(order):
            return [-2]
        if len(order) == 12:
            return [-5]
        own = [tick for tick in self.shown if tick[0] == order[i]]
        if len(self.shown) + len(own) > 1000:
            return [-6]
        behind = self.shown.index(own[0]) + len(own)
        name = self.new_name()
        return self.take(self.shown[:behind] + [(name, cells) for old, cells in own] + self.shown[behind:])

    def call_2(self, i):
        order = self.order()
        if i >= len(order):
            return [-2]
        if len(order) == 1:
            return [-5]
        return self.take([tick for tick in self.shown if tick[0] != order[i]])

    def call_3(self, i, x, y, u, v, n):
        order = self.order()
        if i >= len(order):
            return [-2]
        if n > 255:
            return [-3]
        shown = []
        for name, cells in self.shown:
            if name == order[i]:
                cells = dict(cells)
                for column, row in cells:
                    if column in range(x, x + u) and row in range(y, y + v):
                        cells[column, row] = n
            shown.append((name, cells))
        return self.take(shown)

    def call_4(self, i, n):
        order = self.order()
        if i >= len(order):
            return [-2]
        if n == 0:
            return [-3]
        if n + len([tick for tick in self.shown if tick[0] != order[i]]) > 1000:
            return [-6]
        shown = []
        for name in order:
            own = [tick for tick in self.shown if tick[0] == name]
            shown.extend([own[0]] * n if name == order[i] else own)
        return self.take(shown)

    def call_5(self, k):
        return [-3] if k > 2 else self.take(self.shown, k)

    def call_6(self):
        return self.take(self.shown[::-1])

    def call_7(self):
        shown = [self.shown[0]]
        for name, cells in self.shown[1:]:
            shown.append((shown[-1][0], cells) if shown[-1][1] == cells else (name, cells))
        return self.take(shown)

    def call_8(self, a, m):
        if m == 0 or a + m > len(self.shown):
            return [-3]
        return self.take(self.shown[a:a + m])
