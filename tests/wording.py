"""The calls by their names, as the numbers that the interface asks for, and what the tests share."""

from filmframes.film import Film, answer_calls, answers

MOST = 4294967295


def page(w, h):
    return [0, w, h]


def put(i):
    return [1, i]


def drop(i):
    return [2, i]


def box(i, x, y, u, v, n):
    return [3, i, x, y, u, v, n]


def ticks(i, n):
    return [4, i, n]


def loop(k):
    return [5, k]


def turn():
    return [6]


def together():
    return [7]


def stretch(a, m):
    return [8, a, m]


def bring(m):
    return [9, m]


def read(w, h, numbers):
    return [10, w, h, len(numbers)] + numbers


def undo():
    return [11]


def shown(t):
    return [12, t]


def between(t):
    return [13, t]


def place(t):
    return [14, t]


def told():
    return [15]


def listed():
    return [16]


def joined(calls):
    return [number for call in calls for number in call]


def split_answers(numbers):
    """The answers one by one; the counts before them must fit to the last number."""
    found = []
    at = 0
    while at < len(numbers):
        count = numbers[at]
        found.append(numbers[at + 1:at + 1 + count])
        at += 1 + count
    assert at == len(numbers), numbers
    return found


def ask(*calls):
    """The answer to each call, as a list of lists."""
    found = split_answers(answers(joined(calls)))
    assert len(found) == len(calls), found
    return found


def last(*calls):
    return ask(*calls)[-1]


def seen(*calls):
    """What list and told answer behind the calls: all that the film is then."""
    return ask(*calls, listed(), told())[-2:]


def seen_back(*calls):
    """What is seen behind the calls, and then behind each undo, to the refused one."""
    found = [seen(*calls)]
    back = []
    while last(*calls, *back, undo()) != [-4]:
        back.append(undo())
        found.append(seen(*calls, *back))
    return found


def film_behind(*calls):
    film = Film()
    answer_calls(film, joined(calls))
    return film


def state_of(film):
    """All that a film is, with what can be undone, as tuples: later changes don't reach it."""
    return (film.width, film.height, film.goes_on, frames_of(film.frames),
            tuple((w, h, k, frames_of(frames)) for w, h, k, frames in film.past))


def frames_of(frames):
    return tuple((count, tuple(cells)) for count, cells in frames)


def frames_behind(*calls):
    return list(frames_of(film_behind(*calls).frames))


def marked(numbers):
    """Calls that make, on a page of one cell, a frame for each (ticks, cell)."""
    calls = [page(1, 1)]
    for i, (count, cell) in enumerate(numbers):
        if i > 0:
            calls.append(put(i - 1))
        calls.append(box(i, 0, 0, 1, 1, cell))
    # Ticks come last: a put would copy them and might go beyond 1000.
    calls.extend(ticks(i, count) for i, (count, cell) in enumerate(numbers))
    return calls
