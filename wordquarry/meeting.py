"""Patterns met with maps: which words of a map a pattern means."""

from wordquarry.errors import BadNumber, BadWord
from wordquarry.nearsteps import NearSteps
from wordquarry.patterns import plain_machine
from wordquarry.signs import is_integer, is_word

MOST = 1000


class Met:
    """The pairs of a map whose words a pattern means, and at how many beginnings was looked."""

    def __init__(self, pairs, looked):
        self.pairs = pairs
        self.looked = looked


class Meeting:
    """A map and a machine, gone through together; a place is a pair of their states."""

    def __init__(self, terms, machine):
        self.terms = terms
        self.machine = machine
        self._many = {}
        self._looked = {}

    def many_from(self, place):
        """How many words from a place on are met."""
        if place not in self._many:
            found = 0
            if self.ends_at(place):
                found = 1
            for further in self._further(place):
                found += self.many_from(further)
            self._many[place] = found
        return self._many[place]

    def looked_from(self, place):
        """How many beginnings from a place on also begin a row that is accepted."""
        if place not in self._looked:
            found = 0
            if self.machine.is_live(place[1]):
                found = 1
                for further in self._further(place):
                    found += self.looked_from(further)
            self._looked[place] = found
        return self._looked[place]

    def ends_at(self, place):
        return self.terms.table[place[0]][0] is not None and self.machine.is_good(place[1])

    def _further(self, place):
        return [(target, self.machine.after(place[1], sign))
                for sign, _, target in self.terms.table[place[0]][1]]

    def first_pairs(self, text, most):
        """The first pairs that are met, up to most of them (None: all), whose words are not ahead
        of a beginning."""
        found = []
        ways = self.terms.ways_from(text)
        states = self._states_along(text)
        ways = [(state, word, output, at, states[len(word)]) for state, word, output, at in ways]
        while len(ways) > 0 and len(found) != most:
            state, word, output, at, read = ways.pop()
            end, arcs = self.terms.table[state]
            if at < 0 and self.ends_at((state, read)):
                found.append((word, output + end))
            at = max(at, 0)
            if at < len(arcs):
                sign, more, target = arcs[at]
                ways.append((state, word, output, at + 1, read))
                further = self.machine.after(read, sign)
                if self.many_from((target, further)) > 0:
                    ways.append((target, word + sign, output + more, -1, further))
        return tuple(found)

    def _states_along(self, text):
        """The states of the machine behind each beginning of a text."""
        states = [0]
        for sign in text:
            states.append(self.machine.after(states[-1], sign))
        return states


def met(terms, pattern):
    """The pairs of a map whose words the pattern means."""
    meeting = Meeting(terms, plain_machine(pattern))
    return Met(meeting.first_pairs("", None), meeting.looked_from((terms.root, 0)))


def first_met(terms, pattern, text):
    """The first such pair whose word is not ahead of a beginning, or None."""
    pairs = Meeting(terms, plain_machine(pattern)).first_pairs(text, 1)
    return pairs[0] if len(pairs) > 0 else None


def count_met(terms, pattern):
    """How many such pairs there are."""
    return Meeting(terms, plain_machine(pattern)).many_from((terms.root, 0))


class NearMeeting:
    """A map and the rows near to a word, gone through together."""

    def __init__(self, terms, steps):
        self._terms = terms
        self._steps = steps
        self._prices = {}

    def prices_from(self, state, near):
        """The unlike prices of the words from a place on, ascending."""
        if (state, near) not in self._prices:
            found = {}
            end, arcs = self._terms.table[state]
            price = self._steps.price(near)
            if end is not None and price is not None:
                found[price] = True
            for sign, _, target in arcs:
                further = self._steps.step(near, sign)
                if further != ():
                    for one in self.prices_from(target, further):
                        found[one] = True
            self._prices[state, near] = tuple(sorted(found))
        return self._prices[state, near]

    def words_at(self, price, most):
        """The first words with a price, in order, up to most of them."""
        found = []
        ways = [(self._terms.root, self._steps.begun(), "")]
        while len(ways) > 0 and len(found) < most:
            state, near, word = ways.pop()
            if price not in self.prices_from(state, near):
                continue
            end, arcs = self._terms.table[state]
            if end is not None and self._steps.price(near) == price:
                found.append(word)
            for sign, _, target in arcs[::-1]:
                ways.append((target, self._steps.step(near, sign), word + sign))
        return found


def nearest(terms, word, rule, many):
    """The first many pairs (word, price) of the words near to a word, by price, then as texts."""
    if not is_word(word):
        raise BadWord(word)
    if not is_integer(many) or not 1 <= many <= MOST:
        raise BadNumber("many", many)
    meeting = NearMeeting(terms, NearSteps(word, rule))
    found = []
    for price in range(rule.limit + 1):
        for one in meeting.words_at(price, many - len(found)):
            found.append((one, price))
    return tuple(found)
