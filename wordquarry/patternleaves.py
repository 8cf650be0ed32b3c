"""The patterns that are not made of others: what they mean, and their machines.

A leaf is a tuple that begins with its kind: ("plain", word), ("prefix", word), ("wild", units),
("span", low, high, low_in, high_in), ("near", word, rule), ("any",). The machines name signs
of rows; a sign that is not named does what all signs do that the leaf does not tell apart."""

from wordquarry.machines import Machine, machine_of, one_row
from wordquarry.nearsteps import NearSteps
from wordquarry.signs import row_signs

BELOW = -1
ABOVE = -2


def leaf_fits(leaf, row):
    """Whether a leaf means a row."""
    kind = leaf[0]
    if kind == "plain":
        return row == leaf[1]
    if kind == "prefix":
        return row.startswith(leaf[1])
    if kind == "wild":
        places = wild_closure([0], leaf[1])
        for sign in row:
            places = wild_step(places, leaf[1], sign)
        return len(leaf[1]) in places
    if kind == "span":
        return in_span(leaf, row)
    if kind == "near":
        return leaf[2].price(leaf[1], row) is not None
    return True


def in_span(leaf, row):
    _, low, high, low_in, high_in = leaf
    if low is not None and not (row > low or low_in and row == low):
        return False
    return high is None or row < high or high_in and row == high


def wild_closure(places, units):
    """These places in a wild text, ascending, and those behind signs * there."""
    found = {}
    for place in places:
        found[place] = True
        while place < len(units) and units[place] is None:
            place += 1
            found[place] = True
    return tuple(sorted(found))


def wild_step(places, units, sign):
    further = []
    for place in places:
        if place < len(units):
            if units[place] is None:
                further.append(place)
            elif units[place] == () or units[place][0] == sign:
                further.append(place + 1)
    return wild_closure(further, units)


def leaf_machine(leaf):
    """The machine of the rows that a leaf means."""
    kind = leaf[0]
    if kind == "plain":
        return one_row(leaf[1])
    if kind == "prefix":
        return prefix_machine(leaf[1])
    if kind == "wild":
        return wild_machine(leaf[1])
    if kind == "span":
        return span_machine(leaf)
    if kind == "near":
        return near_machine(leaf[1], leaf[2])
    return Machine([], [[1], [1]], [1])


def prefix_machine(word):
    def step(state, sign):
        if state == len(word):
            return state
        return state + 1 if state >= 0 and word[state] == sign else BELOW

    return machine_of(0, step, lambda state: state == len(word), unlike_signs([word]))


def wild_machine(units):
    """A state is a pair: whether a sign was read, and places in the wild text."""
    def step(state, sign):
        return True, wild_step(state[1], units, sign)

    def is_end(state):
        return state[0] and len(units) in state[1]

    named = unlike_signs([unit[0] for unit in units if unit is not None and unit != ()])
    return machine_of((False, wild_closure([0], units)), step, is_end, named)


def near_machine(word, rule):
    """A state is a pair: whether a sign was read, and the state of the prices."""
    steps = NearSteps(word, rule)

    def step(state, sign):
        return True, steps.step(state[1], sign)

    def is_end(state):
        return state[0] and steps.price(state[1]) is not None

    named = unlike_signs([word] + [one + two for one, two in rule.own_prices])
    return machine_of((False, steps.begun()), step, is_end, named)


def span_machine(leaf):
    """A state tells whether a sign was read, and how far the row is equal to the low word and to
    the high one, or that it is below or above."""
    _, low, high, low_in, high_in = leaf

    def step(state, sign):
        sign = "~" if sign is None else sign
        return True, compared_step(state[1], low, sign), compared_step(state[2], high, sign)

    def is_end(state):
        begun, from_low, to_high = state
        if not begun or from_low != ABOVE and not (low_in and from_low == len(low)):
            return False
        if to_high == BELOW:
            return True
        return 0 <= to_high < len(high) or high_in and to_high == len(high)

    first = (False, ABOVE if low is None else 0, BELOW if high is None else 0)
    return machine_of(first, step, is_end, row_signs())


def compared_step(place, word, sign):
    """How a row compares with a word behind one more sign, place being how far it is equal."""
    if place < 0:
        return place
    if place == len(word) or sign > word[place]:
        return ABOVE
    return place + 1 if sign == word[place] else BELOW


def unlike_signs(words):
    """The unlike signs of some words, ascending."""
    return sorted({sign: True for word in words for sign in word})
