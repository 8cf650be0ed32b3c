"""Layouts judged for all rows of steps."""

from wordquarry.errors import BadNumber, TooMany
from wordquarry.layouts import Layout, weight_of_widths
from wordquarry.signs import is_integer

STATES = 4000
WIDEST = 6
EMPTY = (0, ())


def longer_steps(one, other, width):
    """A shortest row of steps below 2 ** width that weighs more by one layout than by the other;
    None if there is none."""
    for layout in (one, other):
        if not isinstance(layout, Layout) or layout.is_free:
            raise BadNumber("layout", layout)
    if not is_integer(width) or not 0 <= width <= WIDEST:
        raise BadNumber("width", width)
    widths = heaviest_row(one, other, met_moves(one, other, width))
    if widths is None:
        return None
    return tuple([1 << (wide - 1) if wide > 0 else 0 for wide in widths])


def met_moves(one, other, width):
    """For each pair of states that some row leads to, for each width of a further step: the pair
    that comes behind, and how much more the closed blocks weigh by one than by the other."""
    moves = {}
    pairs = [(EMPTY, EMPTY)]
    met = {pairs[0]: True}
    while len(moves) < len(pairs):
        pair = pairs[len(moves)]
        moves[pair] = []
        for wide in range(width + 1):
            left, left_weight = filled(one, pair[0], wide)
            right, right_weight = filled(other, pair[1], wide)
            moves[pair].append(((left, right), left_weight - right_weight))
            if (left, right) not in met:
                met[left, right] = True
                pairs.append((left, right))
                if len(pairs) > STATES:
                    raise TooMany("states", STATES + 1, STATES)
    return moves


def filled(layout, state, wide):
    """The state of a block behind one more step, and the weight of the block if it is closed."""
    many = state[0] + 1
    widths = sorted(list(state[1]) + [wide], reverse=True)[:layout.exceptions + 1]
    if many == layout.block:
        return EMPTY, weight_of_widths(layout, many, widths)[0]
    return (many, tuple(widths)), 0


def open_weight(layout, state):
    """The weight of the block that is being filled."""
    return weight_of_widths(layout, state[0], state[1])[0] if state[0] > 0 else 0


def heaviest_row(one, other, moves):
    """The widths of a shortest row that weighs more by one, None if there is none. Of the rows that
    lead to a pair only those count that weigh more than all shorter ones: if there are none left,
    no longer row weighs more."""
    best = {(EMPTY, EMPTY): 0}
    rows = {(EMPTY, EMPTY): ()}
    extra = {pair: open_weight(one, pair[0]) - open_weight(other, pair[1]) for pair in moves}
    while len(rows) > 0:
        further = {}
        for pair in rows:
            for wide in range(len(moves[pair])):
                target, more = moves[pair][wide]
                weight = best[pair] + more
                if target not in further or weight > further[target][0]:
                    further[target] = (weight, (rows[pair], wide))
        rows = {}
        for pair in further:
            weight, row = further[pair]
            if weight + extra[pair] > 0:
                return widths_of(row)
            if pair not in best or weight > best[pair]:
                rows[pair] = row
        for pair in rows:
            best[pair] = further[pair][0]
    return None


def widths_of(row):
    """The widths of a row, told as a pair of the row ahead and the last width."""
    widths = []
    while len(row) > 0:
        row, wide = row
        widths.append(wide)
    return widths[::-1]
