"""Frames one behind another, as a list of (ticks, cells), and what is made of them.

What is handed in is never changed, so earlier frames can be kept for undoing without a copy.
"""

MOST_TICKS = 1000
MOST_NUMBER = 255

STAYS = 0
GOES_ROUND = 1
THERE_AND_BACK = 2

# A frame told begins with its ticks and its box (column x, row y, u columns, v rows).
HEAD = 5


def blank_cells(width, height):
    return [0] * (width * height)


def blank_frame(width, height):
    return (1, blank_cells(width, height))


def all_ticks(frames):
    return sum([ticks for ticks, cells in frames])


def doubled(frames, i):
    """Behind frame i comes one just like it."""
    return frames[:i + 1] + frames[i:]


def without(frames, i):
    return frames[:i] + frames[i + 1:]


def replaced(frames, i, frame):
    return frames[:i] + [frame] + frames[i + 1:]


def in_box(box, column, row):
    """Whether a cell is in the box (column x, row y, u columns, v rows)."""
    return box[0] <= column < box[0] + box[2] and box[1] <= row < box[1] + box[3]


def filled(cells, width, box, number):
    """The cells with those in the box set to number.

    It goes by the page's cells and not by the box's, since a box may be far larger than the page.
    """
    return [number if in_box(box, c % width, c // width) else cell for c, cell in enumerate(cells)]


def put_together(frames):
    """Of frames one behind another with the same cells one is left, with all their ticks."""
    left = []
    for ticks, cells in frames:
        if len(left) > 0 and left[-1][1] == cells:
            left[-1] = (left[-1][0] + ticks, cells)
        else:
            left.append((ticks, cells))
    return left


def cut_out(frames, first, count):
    """The stretch of count ticks from tick first on."""
    stretch = []
    start = 0
    for ticks, cells in frames:
        end = start + ticks
        within = min(end, first + count) - max(start, first)
        if within > 0:
            stretch.append((within, cells))
        start = end
    return stretch


def nearest(number, parts):
    """number / parts as the nearest whole number, of two as near the greater."""
    return (2 * number + parts) // (2 * parts)


def brought(frames, length):
    """The frames with length ticks in all; a frame may be left without a tick.

    Each end is rounded by itself, and not each frame's ticks: so no end is off by more than a half.
    """
    whole = all_ticks(frames)
    moved = []
    end = 0
    moved_start = 0
    for ticks, cells in frames:
        end += ticks
        moved_end = nearest(end * length, whole)
        moved.append((moved_end - moved_start, cells))
        moved_start = moved_end
    return moved


def own_tick(tick, length, goes_on):
    """Which of the ticks 0 to length - 1 is shown at a tick that may lie beyond them."""
    if goes_on == GOES_ROUND:
        return tick % length
    if goes_on == THERE_AND_BACK:
        there = tick % (2 * length)
        return min(there, 2 * length - 1 - there)
    return min(tick, length - 1)


def place_of(frames, tick):
    """In which frame one of the film's own ticks is, and how many ticks into it."""
    i = 0
    into = tick
    while into >= frames[i][0]:
        into -= frames[i][0]
        i += 1
    return (i, into)


def frame_behind(frames, i, goes_on):
    """The number of the frame that frame i goes over into."""
    if i + 1 < len(frames):
        return i + 1
    return 0 if goes_on == GOES_ROUND else i


def mixed(frame, cells, into):
    """What lies between, so many ticks into the frame, if the cells come behind it."""
    ticks = frame[0]
    return [nearest((ticks - into) * a + into * b, ticks) for a, b in zip(frame[1], cells)]


def changed_box(before, cells, width):
    """The least box that has all cells that differ."""
    differing = [c for c in range(len(cells)) if before[c] != cells[c]]
    if len(differing) == 0:
        return [0, 0, 0, 0]
    columns = [c % width for c in differing]
    rows = [c // width for c in differing]
    x = min(columns)
    y = min(rows)
    return [x, y, max(columns) + 1 - x, max(rows) + 1 - y]


def cells_in(cells, width, box):
    return [cell for c, cell in enumerate(cells) if in_box(box, c % width, c // width)]


def told_of(frames, width):
    """The frames told by what changed from each to the next, the first one from a page of 0s."""
    numbers = []
    before = [0] * len(frames[0][1])
    for ticks, cells in frames:
        box = changed_box(before, cells, width)
        numbers.append(ticks)
        numbers.extend(box)
        numbers.extend(cells_in(cells, width, box))
        before = cells
    return numbers


def pasted(cells, width, box, numbers):
    """The cells with the numbers, row by row, in the box."""
    changed = list(cells)
    for k, number in enumerate(numbers):
        column = box[0] + k % box[2]
        row = box[1] + k // box[2]
        changed[row * width + column] = number
    return changed


def is_head(head, width, height):
    """Whether it's all of a frame's ticks and box, with ticks that a frame may have and a box on the page."""
    if len(head) < HEAD:
        return False
    return 1 <= head[0] <= MOST_TICKS and head[1] + head[3] <= width and head[2] + head[4] <= height


def read_from(numbers, width, height):
    """The frames that are told by the numbers, however many; None if these aren't frames told so."""
    frames = []
    cells = blank_cells(width, height)
    at = 0
    while at < len(numbers):
        head = numbers[at:at + HEAD]
        if not is_head(head, width, height):
            return None
        behind = at + HEAD + head[3] * head[4]
        inner = numbers[at + HEAD:behind]
        if behind > len(numbers) or any([number > MOST_NUMBER for number in inner]):
            return None
        cells = pasted(cells, width, head[1:], inner)
        frames.append((head[0], cells))
        at = behind
    return frames
