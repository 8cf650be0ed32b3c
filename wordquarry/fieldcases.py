"""Cases of queries: which leaves stand together, for all plain rows of each field."""

from wordquarry.errors import NoField, TooMany
from wordquarry.machines import STATES
from wordquarry.queries import Exact, Matching, Phrase, holds_by, leaves_of
from wordquarry.rowsets import leaf_rows, spots_of
from wordquarry.wordclasses import word_classes

MOST_CASES = 20000


class FieldCases:
    """The unlike leaves of a field, from left to right, the words by whose classes rows are told,
    and the machines of the leaves."""

    def __init__(self, field, leaves, plan):
        self.field = field
        self.leaves = leaves
        words = {}
        patterns = {}
        for leaf in leaves:
            if isinstance(leaf, Phrase):
                for _, lot in spots_of(leaf, plan):
                    words.update({word: True for word in lot})
            elif isinstance(leaf, Exact):
                words[leaf.word] = True
            else:
                patterns[leaf.pattern.text] = leaf.pattern
        self.words = word_classes(list(words), list(patterns.values()))
        self._machines = [leaf_rows(leaf, plan, self.words) for leaf in leaves]

    def cases(self):
        """The pairs (which leaves stand, a shortest row of words for which just these do)."""
        letters = self._unlike_letters()
        tables = [[[machine.after(state, letter) for letter in letters]
                   for state in range(machine.states)] for machine in self._machines]
        first = tuple([0 for _ in self._machines])
        met = {first: True}
        waiting = [(first, ())]
        rows = {}
        at = 0
        while at < len(waiting):
            states, row = waiting[at]
            rows.setdefault(self._standing(states), row)
            lots = [table[state] for table, state in zip(tables, states)]
            for place in range(len(letters)):
                target = tuple([lot[place] for lot in lots])
                if target not in met:
                    met[target] = True
                    waiting.append((target, row + (self.words[letters[place]],)))
                    if len(waiting) > STATES:
                        raise TooMany("states", STATES + 1, STATES)
            at += 1
        return [(standing, rows[standing]) for standing in rows]

    def _standing(self, states):
        return tuple([machine.is_good(state) for machine, state in zip(self._machines, states)])

    def _unlike_letters(self):
        """The first one of each lot of letters that do the same in all machines."""
        met = {}
        for letter in range(len(self.words)):
            does = tuple([tuple([machine.after(state, letter) for state in range(machine.states)])
                          for machine in self._machines])
            met.setdefault(does, letter)
        return list(met.values())


def asking_leaves(queries):
    """The unlike leaves of some queries that ask a field, by fields, from left to right."""
    found = {}
    for query in queries:
        for leaf in leaves_of(query):
            if isinstance(leaf, (Phrase, Exact, Matching)):
                found.setdefault(leaf.field, {}).setdefault(leaf.told, leaf)
    return {field: list(found[field].values()) for field in sorted(found)}


def cases_of(queries, plan):
    """All cases of the leaves of some queries: pairs (a dict from the told texts of leaves to
    whether they stand, a plain paper of the fewest words)."""
    leaves = asking_leaves(queries)
    for field in leaves:
        if field not in plan.fields:
            raise NoField(field)
    told = [FieldCases(field, leaves[field], plan) for field in leaves]
    lots = [one.cases() for one in told]
    number = 1
    for lot in lots:
        number = number * len(lot)
    if number > MOST_CASES:
        raise TooMany("cases", number, MOST_CASES)
    cases = [({}, {})]
    for one, lot in zip(told, lots):
        further = []
        for standing, paper in cases:
            for bits, row in lot:
                more = dict(standing)
                more.update({leaf.told: bit for leaf, bit in zip(one.leaves, bits)})
                further.append((more, with_row(paper, one.field, row)))
        cases = further
    return cases


def with_row(paper, field, row):
    """A plain paper with one more field, if its row is not empty."""
    more = dict(paper)
    if len(row) > 0:
        more[field] = row
    return more


def is_true(query, standing):
    """Whether a query holds, standing telling which leaves stand."""
    return holds_by(query, lambda leaf: standing[leaf.told])
