"""Pieces of texts: windows in which as many marked stretches lie as may be."""

from wordquarry.errors import BadNumber
from wordquarry.placings import first_from
from wordquarry.signs import BLANKS, is_integer
from wordquarry.stretches import check_marked

MOST_WINDOWS = 9
LONGEST = 200


def pieces(text, stretches, many, length):
    """The windows of the best choice of at most so many windows, each at most so long."""
    check_marked(text, stretches)
    if not is_integer(many) or not 1 <= many <= MOST_WINDOWS:
        raise BadNumber("many", many)
    if not is_integer(length) or not 1 <= length <= LONGEST:
        raise BadNumber("length", length)
    windows = windows_of(chunks_of(text), length)
    ends = [(end,) for _, end in stretches]
    held = [stretches_within(window, stretches, ends) for window in windows]
    return best_choice(windows, held, many)


def chunks_of(text):
    """The longest rows of signs other than blank and newline, as stretches."""
    chunks = []
    start = None
    for at in range(len(text)):
        if text[at] in BLANKS:
            if start is not None:
                chunks.append((start, at))
            start = None
        elif start is None:
            start = at
    if start is not None:
        chunks.append((start, len(text)))
    return chunks


def windows_of(chunks, length):
    """For each chunk the window that begins with it and the index of the chunk behind the window;
    None where there is none."""
    windows = []
    behind = 0
    for at in range(len(chunks)):
        start, end = chunks[at]
        behind = max(behind, at)
        while behind < len(chunks) and chunks[behind][1] <= start + length:
            behind += 1
        if end - start > length:
            windows.append(None)
        else:
            windows.append((start, chunks[behind - 1][1], behind))
    return windows


def stretches_within(window, stretches, ends):
    """How many marked stretches lie wholly within a window; ends has their ends, each alone."""
    if window is None:
        return 0
    many = first_from(ends, window[1] + 1) - first_from(stretches, window[0])
    # one that begins ahead of the window and ends behind it would be taken off
    return max(0, many)


def best_choice(windows, held, many):
    """The windows of the best choice. values has for each chunk and each number of windows the
    best pair (stretches, windows less than 0) of windows from this chunk on."""
    values = [[(0, 0)] * (many + 1) for _ in range(len(windows) + 1)]
    for at in range(len(windows) - 1, -1, -1):
        for left in range(many + 1):
            values[at][left] = max(values[at + 1][left], value_with(windows, held, values, at, left))
    chosen = []
    at = 0
    left = many
    while at < len(windows):
        if values[at][left] == (0, 0):
            break
        if value_with(windows, held, values, at, left) == values[at][left]:
            chosen.append((windows[at][0], windows[at][1]))
            at = windows[at][2]
            left -= 1
        else:
            at += 1
    return tuple(chosen)


def value_with(windows, held, values, at, left):
    """The best value of windows from a chunk on, the first of which begins with it."""
    if windows[at] is None or left == 0:
        return (-1, 0)
    stretches, fewer = values[windows[at][2]][left - 1]
    return (stretches + held[at], fewer - 1)


def cut_out(text, windows, stretches):
    """For each window its text, and the marked stretches that lie in it, from its beginning on."""
    rows = []
    for start, end in windows:
        lying = tuple([(one - start, two - start) for one, two in stretches
                       if start <= one and two <= end])
        rows.append((text[start:end], lying))
    return tuple(rows)
