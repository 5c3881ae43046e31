"""One film, the calls on it, and what they answer.

Each call is a function of the film and the call's own numbers, and answers a list of numbers.
It looks for every refusal, in the order in which the document tells them, before it changes
anything: so behind a refusal all is as it was.
"""

from filmframes.frames import all_ticks, blank_frame, cut_out, doubled, filled, put_together, replaced, without

MOST_SIDE = 6
MOST_FRAMES = 12
MOST_TICKS = 1000
MOST_NUMBER = 255
MOST_GOES_ON = 2
MOST_UNDONE = 8

BAD_SIZE = -1
NO_FRAME = -2
BAD_NUMBER = -3
BAD_FRAME_COUNT = -5
BAD_TICKS = -6


class Film:
    """A film as it is, and in past, oldest first, as it was ahead of each change that can be undone."""

    def __init__(self):
        self.begin(1, 1)

    def begin(self, width, height):
        self.width = width
        self.height = height
        self.goes_on = 0
        self.frames = [blank_frame(width, height)]
        self.past = []

    def remember(self):
        self.past.append((self.width, self.height, self.goes_on, self.frames))
        self.past = self.past[-MOST_UNDONE:]

    def extent(self):
        return [len(self.frames), all_ticks(self.frames)]

    def change_frames(self, frames):
        self.remember()
        self.frames = frames
        return self.extent()

    def change_goes_on(self, goes_on):
        self.remember()
        self.goes_on = goes_on
        return self.extent()

    def has_frame(self, i):
        return i < len(self.frames)


def is_side(number):
    return 1 <= number <= MOST_SIDE


def page(film, given):
    if not is_side(given[0]) or not is_side(given[1]):
        return [BAD_SIZE]
    film.begin(given[0], given[1])
    return film.extent()


def put(film, given):
    i = given[0]
    if not film.has_frame(i):
        return [NO_FRAME]
    if len(film.frames) == MOST_FRAMES:
        return [BAD_FRAME_COUNT]
    frames = doubled(film.frames, i)
    if all_ticks(frames) > MOST_TICKS:
        return [BAD_TICKS]
    return film.change_frames(frames)


def drop(film, given):
    i = given[0]
    if not film.has_frame(i):
        return [NO_FRAME]
    if len(film.frames) == 1:
        return [BAD_FRAME_COUNT]
    return film.change_frames(without(film.frames, i))


def box(film, given):
    i = given[0]
    number = given[5]
    if not film.has_frame(i):
        return [NO_FRAME]
    if number > MOST_NUMBER:
        return [BAD_NUMBER]
    frame = film.frames[i]
    cells = filled(frame[1], film.width, given[1:5], number)
    return film.change_frames(replaced(film.frames, i, (frame[0], cells)))


def ticks(film, given):
    i = given[0]
    number = given[1]
    if not film.has_frame(i):
        return [NO_FRAME]
    if number == 0:
        return [BAD_NUMBER]
    frames = replaced(film.frames, i, (number, film.frames[i][1]))
    if all_ticks(frames) > MOST_TICKS:
        return [BAD_TICKS]
    return film.change_frames(frames)


def loop(film, given):
    if given[0] > MOST_GOES_ON:
        return [BAD_NUMBER]
    return film.change_goes_on(given[0])


def turn(film, given):
    return film.change_frames(list(reversed(film.frames)))


def together(film, given):
    return film.change_frames(put_together(film.frames))


def stretch(film, given):
    first = given[0]
    count = given[1]
    if count == 0 or first + count > all_ticks(film.frames):
        return [BAD_NUMBER]
    return film.change_frames(cut_out(film.frames, first, count))


# By a call's number: what carries it out, and how many numbers stand behind its own.
CALLS = (
    (page, 2),
    (put, 1),
    (drop, 1),
    (box, 6),
    (ticks, 2),
    (loop, 1),
    (turn, 0),
    (together, 0),
    (stretch, 2),
)


def answer_calls(film, calls):
    told = []
    at = 0
    while at < len(calls):
        call = CALLS[calls[at]]
        behind = at + 1 + call[1]
        carry_out = call[0]
        answer = carry_out(film, calls[at + 1:behind])
        told.append(len(answer))
        told.extend(answer)
        at = behind
    return told


def answers(calls):
    """What a new film answers to the calls: of each how many numbers, then these."""
    return answer_calls(Film(), calls)
