"""Styles: how texts with marks are written, and whether they can be read back.

A text with marked stretches is written piece by piece: signs, and what stands ahead of and behind
a stretch. What may come next depends on a mode: outside of a stretch, just within one, further
within one."""

from wordquarry.errors import BadText, BadWord, TooMany
from wordquarry.signs import SIGNS, is_text, lines_of
from wordquarry.stretches import check_marked

MOST_LINES = 14
MOST_SIGNS = 12
STATES = 20000
OUTSIDE = 0
OPENED = 1
WITHIN = 2


class Style:
    """What stands around stretches, and how some signs are written; it never changes."""

    def __init__(self, text):
        if not is_text(text):
            raise BadWord("text")
        lines = lines_of(text)
        if len(lines) > MOST_LINES:
            raise TooMany("lines", len(lines), MOST_LINES)
        told = []
        self._written = {}
        for at in range(max(2, len(lines))):
            if at == len(lines):
                raise BadText(at + 1, 1)
            told.append(read_line(lines[at], at, dict(self._written)))
            if at > 1:
                self._written[told[at][1]] = told[at][3]
        self.text = text
        self.opening = told[0][1]
        self.closing = told[1][1]
        self.steps_by_sign = [by_first_sign(lot) for lot in steps_of_style(self)]

    def __eq__(self, other):
        return isinstance(other, Style) and self.text == other.text

    def written(self, sign):
        """How a sign is written."""
        return self._written.get(sign, sign)


def read_line(line, at, written):
    """The pieces of a line, at being its place; written has the signs that were told ahead."""
    heads = ["before", "after", "sign"]
    pieces = line.split(" ")
    for spot in range(len(pieces)):
        piece = pieces[spot]
        if spot == 0:
            is_right = piece == heads[min(at, 2)]
        elif at > 1 and spot == 1:
            is_right = len(piece) == 1 and piece not in written
        elif at > 1 and spot == 2:
            is_right = piece == "as"
        else:
            is_right = 1 <= len(piece) <= MOST_SIGNS and spot == (1 if at < 2 else 3)
        if not is_right:
            raise BadText(at + 1, sum([len(one) + 1 for one in pieces[:spot]]) + 1)
    if len(pieces) < (2 if at < 2 else 4):
        raise BadText(at + 1, len(line) + 1)
    return pieces


def shown(text, stretches, style):
    """The row of signs that is written of a text with marked stretches."""
    check_marked(text, stretches)
    starts = {start: True for start, _ in stretches}
    ends = {end: True for _, end in stretches}
    parts = []
    for at in range(len(text)):
        if at in starts:
            parts.append(style.opening)
        parts.append(style.written(text[at]))
        if at + 1 in ends:
            parts.append(style.closing)
    return "".join(parts)


def steps_of_style(style):
    """For each mode what may be written next: tuples (what, how it is written, the next mode)."""
    signs = [(sign, style.written(sign)) for sign in SIGNS]
    within = [(sign, written, WITHIN) for sign, written in signs]
    outside = [(sign, written, OUTSIDE) for sign, written in signs]
    return (outside + [("opening", style.opening, OPENED)], within,
            within + [("closing", style.closing, OUTSIDE)])


def readings_many(row, style):
    """How many texts with marked stretches a row may be written of."""
    if not is_text(row):
        raise BadWord("row")
    steps = style.steps_by_sign
    ways = [[0, 0, 0] for _ in range(len(row) + 1)]
    ways[0][OUTSIDE] = 1
    for at in range(len(row)):
        for mode in (OUTSIDE, OPENED, WITHIN):
            if ways[at][mode] > 0:
                for _, written, after in steps[mode].get(row[at], []):
                    if row[at:at + len(written)] == written:
                        ways[at + len(written)][after] += ways[at][mode]
    return ways[len(row)][OUTSIDE]


def by_first_sign(steps):
    """For each sign the steps whose written row begins with it."""
    found = {}
    for step in steps:
        found.setdefault(step[1][0], []).append(step)
    return found


def clash(style):
    """The first shortest row with more than one reading, or None.

    A state has two readings of one row: (rest, mode, rest, mode, whether they are unlike), a rest
    being what of the last piece is still to come. The rows of one length are gone through in
    their order, each with its lot of states that no row ahead leads to."""
    steps = style.steps_by_sign
    signs = telling_signs(style)
    first = ("", OUTSIDE, "", OUTSIDE, False)
    met = {first: True}
    lots = [("", [first])]
    at = 0
    while at < len(lots):
        row, states = lots[at]
        for sign in signs:
            further = []
            for state in states:
                for target in pairs_behind(state, sign, steps):
                    if target == ("", OUTSIDE, "", OUTSIDE, True):
                        return row + sign
                    if target not in met:
                        met[target] = True
                        further.append(target)
            if len(further) > 0:
                lots.append((row + sign, further))
                if len(lots) > STATES:
                    raise TooMany("states", STATES + 1, STATES)
        at += 1
    return None


def telling_signs(style):
    """The signs that a style names, and the first one of all others, which are all alike to it."""
    told = style.opening + style.closing
    for sign in SIGNS:
        if style.written(sign) != sign:
            told = told + sign + style.written(sign)
    others = [sign for sign in SIGNS if sign not in told]
    return [sign for sign in SIGNS if sign in told or sign in others[:1]]


def pairs_behind(state, sign, steps):
    """The states behind one more sign."""
    one_rest, one_mode, two_rest, two_mode, is_unlike = state
    if one_rest != "" and one_rest[0] != sign:
        return []
    ones = readings_behind(one_rest, one_mode, sign, steps)
    if not is_unlike:
        return [(ones[left][1], ones[left][2], ones[right][1], ones[right][2], left != right)
                for left in range(len(ones)) for right in range(left, len(ones))]
    twos = readings_behind(two_rest, two_mode, sign, steps)
    return [(one[1], one[2], two[1], two[2], True) for one in ones for two in twos]


def readings_behind(rest, mode, sign, steps):
    """The ways of one reading behind one more sign: tuples (what, rest, mode)."""
    if rest != "":
        return [("", rest[1:], mode)] if rest[0] == sign else []
    return [(what, written[1:], after) for what, written, after in steps[mode].get(sign, [])]
