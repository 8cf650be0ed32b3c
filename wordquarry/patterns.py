"""Patterns: each means some of all rows."""

from wordquarry.errors import BadNumber, BadText, BadWord
from wordquarry.machines import Machine
from wordquarry.nearrules import NearRule
from wordquarry.patternleaves import leaf_fits, leaf_machine
from wordquarry.searches import first_text
from wordquarry.signs import is_integer, is_row, is_word, row_signs
from wordquarry.strokes import read_wild, stroked, stroked_rule

LONGEST = 1000
LAST_SIGN = "~"
# How tightly a pattern holds together.
EITHER = 1
JOINED = 2
LEAF = 3


class Pattern:
    """A leaf, or patterns joined by a sign: program has the leaves and signs, each sign behind
    the two patterns that it joins. It never changes."""

    def __init__(self, program, text, tightness):
        self.program = tuple(program)
        self.text = text
        self.tightness = tightness

    def __eq__(self, other):
        return isinstance(other, Pattern) and self.text == other.text

    def fits(self, row):
        """Whether the pattern means a row."""
        if not is_row(row):
            return False
        found = []
        for part in self.program:
            if isinstance(part, tuple):
                found.append(leaf_fits(part, row))
                continue
            two = found.pop()
            one = found.pop()
            if part == "&":
                found.append(one and two)
            elif part == "-":
                found.append(one and not two)
            else:
                found.append(one or two)
        return found[0]

    def made_machine(self):
        """The least machine of the rows that the pattern means; what it does not name does what
        the sign ~ does."""
        machine = plain_machine(self)
        if LAST_SIGN not in machine.named:
            return machine
        named = row_signs().replace(LAST_SIGN, "")
        rows = [[machine.after(state, sign) for sign in named + LAST_SIGN]
                for state in range(machine.states)]
        return Machine(named, rows, machine.good)


def plain_machine(pattern):
    """The least machine of a pattern; what it does not name does what signs do that the pattern
    does not tell apart."""
    found = []
    for part in pattern.program:
        if isinstance(part, tuple):
            found.append([leaf_machine(part)])
            continue
        two = found.pop()
        one = found.pop()
        if part == "|":
            found.append(one + two)
        elif part == "&":
            found.append([united(one) & united(two)])
        else:
            found.append([united(one) - united(two)])
    return united(found[0])


def united(machines):
    """The machine of the rows that any of them accepts; halves are put together, so that each one
    is gone through a few times only."""
    machines = list(machines)
    while len(machines) > 1:
        halves = [machines[at] | machines[at + 1] for at in range(0, len(machines) - 1, 2)]
        machines = halves + machines[2 * len(halves):]
    return machines[0]


def leaf_pattern(leaf, text):
    return Pattern([leaf], text, LEAF)


def plain(word):
    """The pattern of just this word."""
    check_word(word)
    return leaf_pattern(("plain", word), "'" + stroked(word) + "'")


def prefix(word):
    """The pattern of the rows that begin with a word."""
    check_word(word)
    return leaf_pattern(("prefix", word), "'" + stroked(word) + "'*")


def wild(text):
    """The pattern of a wild text: ? is any one sign, * any signs."""
    if not isinstance(text, str):
        raise BadText(1, 1)
    units, at = read_wild(text, 0)
    if at < len(text) or len(units) == 0:
        raise BadText(1, at + 1)
    return leaf_pattern(("wild", tuple(units)), "w'" + text + "'")


def span(low, high, low_in, high_in):
    """The pattern of the rows from one word up to another one; None is no bound."""
    if low is not None:
        check_word(low)
    if high is not None:
        check_word(high)
    elif low is None:
        raise BadWord(None)
    if low is not None and high is not None:
        if not (low < high or low == high and low_in and high_in):
            raise BadWord(high)
    low_in = low is None or bool(low_in)
    high_in = high is None or bool(high_in)
    text = ("[" if low_in else "(") + bound_text(low) + ".." + bound_text(high)
    return leaf_pattern(("span", low, high, low_in, high_in), text + ("]" if high_in else ")"))


def bound_text(word):
    return "" if word is None else "'" + stroked(word) + "'"


def near(word, rule):
    """The pattern of the rows near to a word."""
    check_word(word)
    if not isinstance(rule, NearRule):
        raise BadWord(rule)
    text = "'" + stroked(word) + "'~<" + stroked_rule(rule.text) + ">"
    return leaf_pattern(("near", word, rule), text)


def any_row():
    """The pattern of all rows."""
    return leaf_pattern(("any",), "any")


def both(one, other):
    return joined_pattern(one, other, "&", JOINED)


def without(one, other):
    return joined_pattern(one, other, "-", JOINED)


def either(one, other):
    return joined_pattern(one, other, "|", EITHER)


def joined_pattern(one, other, sign, tightness):
    """Two patterns joined by a sign, in brackets where they would be read otherwise."""
    check_pattern(one)
    check_pattern(other)
    left = one.text if one.tightness >= tightness else "(" + one.text + ")"
    right = other.text if other.tightness > tightness else "(" + other.text + ")"
    return Pattern(one.program + other.program + (sign,), left + sign + right, tightness)


def check_word(value):
    if not is_word(value):
        raise BadWord(value)


def check_pattern(value):
    if not isinstance(value, Pattern):
        raise BadWord(value)


def least_row_of(pattern):
    """The first one of the shortest rows that a pattern means, or None."""
    check_pattern(pattern)
    machine = plain_machine(pattern)
    return first_text(0, lambda state, sign: machine.after(state, sign),
                      lambda state: machine.is_good(state), row_signs())


def unlike_row(one, other):
    """The first shortest row that just one of two patterns means, or None."""
    return told_row(one, other, lambda first, second: first != second)


def beyond_row(one, other):
    """The first shortest row that one pattern means and the other does not, or None."""
    return told_row(one, other, lambda first, second: first and not second)


def common_row(one, other):
    """The first shortest row that both patterns mean, or None."""
    return told_row(one, other, lambda first, second: first and second)


def told_row(one, other, is_wanted):
    """The first shortest row of which it is wanted whether the patterns mean it, or None."""
    check_pattern(one)
    check_pattern(other)
    left = plain_machine(one)
    right = plain_machine(other)

    def step(state, sign):
        return left.after(state[0], sign), right.after(state[1], sign)

    def is_found(state):
        return is_wanted(left.is_good(state[0]), right.is_good(state[1]))

    return first_text((0, 0), step, is_found, row_signs())


def many_rows(pattern, length):
    """How many rows of so many signs a pattern means."""
    check_pattern(pattern)
    if not is_integer(length) or not 1 <= length <= LONGEST:
        raise BadNumber("length", length)
    machine = plain_machine(pattern)
    return machine.rows_many(length, len(row_signs()) - len(machine.named))
