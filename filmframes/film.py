"""One film, the calls on it, and what they answer.

Each call is a function of the film and the call's own numbers, and answers a list of numbers.
It looks for every refusal, in the order in which the document tells them, before it changes
anything: so behind a refusal all is as it was.
"""

from filmframes.frames import MOST_NUMBER, MOST_TICKS, STAYS, THERE_AND_BACK
from filmframes.frames import all_ticks, blank_frame, brought, cut_out, doubled, filled, frame_behind, mixed
from filmframes.frames import own_tick, place_of, put_together, read_from, replaced, told_of, without

MOST_SIDE = 6
MOST_FRAMES = 12
MOST_UNDONE = 8

BAD_SIZE = -1
NO_FRAME = -2
BAD_NUMBER = -3
NOTHING_TO_UNDO = -4
BAD_FRAME_COUNT = -5
BAD_TICKS = -6


class Film:
    """A film as it is, and in past, oldest first, as it was ahead of each change that can be undone."""

    def __init__(self):
        self.begin(1, 1)

    def begin(self, width, height):
        self.width = width
        self.height = height
        self.goes_on = STAYS
        self.frames = [blank_frame(width, height)]
        self.past = []

    def remember(self):
        self.past.append((self.width, self.height, self.goes_on, self.frames))
        self.past = self.past[-MOST_UNDONE:]

    def extent(self):
        return [len(self.frames), all_ticks(self.frames)]

    def change_frames(self, frames):
        self.remember()
        self.frames = frames
        return self.extent()

    def change_goes_on(self, goes_on):
        self.remember()
        self.goes_on = goes_on
        return self.extent()

    def change_size(self, width, height, frames):
        self.remember()
        self.width = width
        self.height = height
        self.frames = frames
        return self.extent()

    def go_back(self):
        was = self.past.pop()
        self.width = was[0]
        self.height = was[1]
        self.goes_on = was[2]
        self.frames = was[3]
        return self.extent()

    def has_frame(self, i):
        return i < len(self.frames)

    def place_at(self, tick):
        """In which frame a tick is, be it beyond the film's own too, and how many ticks into it."""
        return place_of(self.frames, own_tick(tick, all_ticks(self.frames), self.goes_on))


def is_size(width, height):
    return 1 <= width <= MOST_SIDE and 1 <= height <= MOST_SIDE


def page(film, given):
    if not is_size(given[0], given[1]):
        return [BAD_SIZE]
    film.begin(given[0], given[1])
    return film.extent()


def put(film, given):
    i = given[0]
    if not film.has_frame(i):
        return [NO_FRAME]
    if len(film.frames) == MOST_FRAMES:
        return [BAD_FRAME_COUNT]
    frames = doubled(film.frames, i)
    if all_ticks(frames) > MOST_TICKS:
        return [BAD_TICKS]
    return film.change_frames(frames)


def drop(film, given):
    i = given[0]
    if not film.has_frame(i):
        return [NO_FRAME]
    if len(film.frames) == 1:
        return [BAD_FRAME_COUNT]
    return film.change_frames(without(film.frames, i))


def box(film, given):
    i = given[0]
    number = given[5]
    if not film.has_frame(i):
        return [NO_FRAME]
    if number > MOST_NUMBER:
        return [BAD_NUMBER]
    frame = film.frames[i]
    cells = filled(frame[1], film.width, given[1:5], number)
    return film.change_frames(replaced(film.frames, i, (frame[0], cells)))


def ticks(film, given):
    i = given[0]
    number = given[1]
    if not film.has_frame(i):
        return [NO_FRAME]
    if number == 0:
        return [BAD_NUMBER]
    frames = replaced(film.frames, i, (number, film.frames[i][1]))
    if all_ticks(frames) > MOST_TICKS:
        return [BAD_TICKS]
    return film.change_frames(frames)


def loop(film, given):
    if given[0] > THERE_AND_BACK:
        return [BAD_NUMBER]
    return film.change_goes_on(given[0])


def turn(film, given):
    return film.change_frames(list(reversed(film.frames)))


def together(film, given):
    return film.change_frames(put_together(film.frames))


def stretch(film, given):
    first = given[0]
    count = given[1]
    if count == 0 or first + count > all_ticks(film.frames):
        return [BAD_NUMBER]
    return film.change_frames(cut_out(film.frames, first, count))


def bring(film, given):
    length = given[0]
    if not 1 <= length <= MOST_TICKS:
        return [BAD_NUMBER]
    frames = brought(film.frames, length)
    if any([frame[0] == 0 for frame in frames]):
        return [BAD_TICKS]
    return film.change_frames(frames)


def read(film, given):
    width = given[0]
    height = given[1]
    if not is_size(width, height):
        return [BAD_SIZE]
    frames = read_from(given[3:], width, height)
    if frames is None:
        return [BAD_NUMBER]
    if not 1 <= len(frames) <= MOST_FRAMES or all_ticks(frames) > MOST_TICKS:
        return [BAD_FRAME_COUNT]
    return film.change_size(width, height, frames)


def undo(film, given):
    if len(film.past) == 0:
        return [NOTHING_TO_UNDO]
    return film.go_back()


def shown(film, given):
    i = film.place_at(given[0])[0]
    return list(film.frames[i][1])


def between(film, given):
    at = film.place_at(given[0])
    behind = frame_behind(film.frames, at[0], film.goes_on)
    return mixed(film.frames[at[0]], film.frames[behind][1], at[1])


def place(film, given):
    return list(film.place_at(given[0]))


def told(film, given):
    return told_of(film.frames, film.width)


def listed(film, given):
    return [film.width, film.height, film.goes_on, len(film.frames)] + [frame[0] for frame in film.frames]


# By a call's number: what carries it out, and how many numbers stand behind its own.
CALLS = (
    (page, 2),
    (put, 1),
    (drop, 1),
    (box, 6),
    (ticks, 2),
    (loop, 1),
    (turn, 0),
    (together, 0),
    (stretch, 2),
    (bring, 1),
    (read, 3),
    (undo, 0),
    (shown, 1),
    (between, 1),
    (place, 1),
    (told, 0),
    (listed, 0),
)
READ = 10


def end_of_call(calls, at):
    behind = at + 1 + CALLS[calls[at]][1]
    if calls[at] == READ:
        # The last of read's own three tells how many numbers follow it.
        return behind + calls[behind - 1]
    return behind


def answer_calls(film, calls):
    numbers = []
    at = 0
    while at < len(calls):
        carry_out = CALLS[calls[at]][0]
        behind = end_of_call(calls, at)
        answer = carry_out(film, calls[at + 1:behind])
        numbers.append(len(answer))
        numbers.extend(answer)
        at = behind
    return numbers


def answers(calls):
    """What a new film answers to the calls: of each how many numbers, then these."""
    return answer_calls(Film(), calls)
