"""Frames one behind another, as a list of (ticks, cells), and what is made of them.

What is handed in is never changed, so earlier frames can be kept for undoing without a copy.
"""


def blank_frame(width, height):
    return (1, [0] * (width * height))


def all_ticks(frames):
    return sum([ticks for ticks, cells in frames])


def doubled(frames, i):
    """Behind frame i comes one just like it."""
    return frames[:i + 1] + frames[i:]


def without(frames, i):
    return frames[:i] + frames[i + 1:]


def replaced(frames, i, frame):
    return frames[:i] + [frame] + frames[i + 1:]


def in_box(box, column, row):
    """Whether a cell is in the box (column x, row y, u columns, v rows)."""
    return box[0] <= column < box[0] + box[2] and box[1] <= row < box[1] + box[3]


def filled(cells, width, box, number):
    """The cells with those in the box set to number.

    It goes by the page's cells and not by the box's, since a box may be far larger than the page.
    """
    return [number if in_box(box, c % width, c // width) else cell for c, cell in enumerate(cells)]


def put_together(frames):
    """Of frames one behind another with the same cells one is left, with all their ticks."""
    left = []
    for ticks, cells in frames:
        if len(left) > 0 and left[-1][1] == cells:
            left[-1] = (left[-1][0] + ticks, cells)
        else:
            left.append((ticks, cells))
    return left


def cut_out(frames, first, count):
    """The stretch of count ticks from tick first on."""
    stretch = []
    start = 0
    for ticks, cells in frames:
        end = start + ticks
        within = min(end, first + count) - max(start, first)
        if within > 0:
            stretch.append((within, cells))
        start = end
    return stretch
