"""Machines that read rows of letters, each the least one of its kind."""

from wordquarry.errors import TooMany
from wordquarry.leasttables import least_table
from wordquarry.machinepairs import met_pairs, pair_rows

STATES = 20000


class Machine:
    """The least machine that accepts just the rows that a told one accepts."""

    def __init__(self, named, rows, good):
        self.named, self.rows, self.good = least_table(list(named), rows, good)
        self.states = len(self.rows)
        self._columns = {self.named[at]: at for at in range(len(self.named))}
        self._good = {state: True for state in self.good}

    def after(self, state, letter):
        return self.rows[state][self._columns.get(letter, len(self.named))]

    def reached(self, letters):
        state = 0
        for letter in letters:
            state = self.after(state, letter)
        return state

    def accepts(self, letters):
        return self.is_good(self.reached(letters))

    def is_good(self, state):
        return state in self._good

    def is_live(self, state):
        # of the states that lead to no good one a least machine has one at most
        return state in self._good or any([target != state for target in self.rows[state]])

    def is_empty(self):
        return len(self.good) == 0

    def within(self, other):
        pairs = met_pairs(self, other)[1]
        return not any([self.is_good(one) and not other.is_good(two) for one, two in pairs])

    def __and__(self, other):
        letters, pairs = met_pairs(self, other)
        good = [at for at in range(len(pairs))
                if self.is_good(pairs[at][0]) and other.is_good(pairs[at][1])]
        return Machine(letters, pair_rows(self, other, letters, pairs), good)

    def __or__(self, other):
        letters, pairs = met_pairs(self, other)
        good = [at for at in range(len(pairs))
                if self.is_good(pairs[at][0]) or other.is_good(pairs[at][1])]
        return Machine(letters, pair_rows(self, other, letters, pairs), good)

    def __sub__(self, other):
        letters, pairs = met_pairs(self, other)
        good = [at for at in range(len(pairs))
                if self.is_good(pairs[at][0]) and not other.is_good(pairs[at][1])]
        return Machine(letters, pair_rows(self, other, letters, pairs), good)

    def __invert__(self):
        good = [state for state in range(self.states) if not self.is_good(state)]
        return Machine(self.named, self.rows, good)

    def __eq__(self, other):
        if not isinstance(other, Machine):
            return False
        pairs = met_pairs(self, other)[1]
        return all([self.is_good(one) == other.is_good(two) for one, two in pairs])

    def least_row(self, order=None):
        """Of the shortest accepted rows the first one by an order of letters, or None."""
        letters = list(self.named) + [None] if order is None else list(order)
        ways = {0: ()}
        states = [0]
        at = 0
        while at < len(states):
            state = states[at]
            if self.is_good(state):
                return row_of_way(ways, state)
            for letter in letters:
                target = self.after(state, letter)
                if target not in ways:
                    ways[target] = (state, letter)
                    states.append(target)
            at += 1
        return None

    def rows_many(self, length, others):
        """How many rows of so many letters are accepted, if others letters are not named."""
        live = [self.is_live(state) for state in range(self.states)]
        moves = [self._moves(state, others, live) for state in range(self.states)]
        ways = {0: 1}
        for _ in range(length):
            if len(ways) == 0:
                return 0
            further = {}
            for state in ways:
                for target in moves[state]:
                    further[target] = further.get(target, 0) + ways[state] * moves[state][target]
            ways = further
        return sum([ways[state] for state in ways if self.is_good(state)])

    def _moves(self, state, others, live):
        """The live states to which letters lead, each with how many of them."""
        moves = {}
        row = self.rows[state]
        for at in range(len(row)):
            many = 1 if at < len(self.named) else others
            if many > 0 and live[row[at]]:
                moves[row[at]] = moves.get(row[at], 0) + many
        return moves


def row_of_way(ways, state):
    """The letters along the way to a state; ways leads to the state ahead and the letter."""
    letters = []
    while len(ways[state]) > 0:
        state, letter = ways[state]
        letters.append(letter)
    return tuple(letters[::-1])


def machine_of(first, step, is_good, named):
    """The Machine whose states are values, from first on."""
    letters = list(named)
    numbers = {first: 0}
    states = [first]
    rows = []
    while len(rows) < len(states):
        state = states[len(rows)]
        row = []
        for letter in letters + [None]:
            target = step(state, letter)
            if target not in numbers:
                numbers[target] = len(states)
                states.append(target)
                check_states(len(states))
            row.append(numbers[target])
        rows.append(row)
    return Machine(letters, rows, [at for at in range(len(states)) if is_good(states[at])])


def machine_of_ways(firsts, steps, is_good, named):
    """The Machine that accepts a row if some way along it ends in a good state."""
    return machine_of_lots(firsts, steps, is_good, named, STATES)


def machine_of_lots(firsts, steps, is_good, named, limit):
    """As machine_of_ways, with a limit of its own, None for no limit, for the lots of states."""
    letters = list(named)
    numbers = {}
    values = []
    steps_of = {}
    lots = [lot_of(firsts, numbers, values)]
    places = {lots[0]: 0}
    rows = []
    while len(rows) < len(lots):
        lot = lots[len(rows)]
        row = []
        for at in range(len(letters) + 1):
            letter = letters[at] if at < len(letters) else None
            for number in lot:
                if (number, at) not in steps_of:
                    told = steps(values[number], letter)
                    steps_of[number, at] = lot_of(told, numbers, values)
            target = tuple(sorted({one for number in lot for one in steps_of[number, at]}))
            if target not in places:
                places[target] = len(lots)
                lots.append(target)
                check_states(len(lots), limit)
            row.append(places[target])
        rows.append(row)
    good = {number: True for number in range(len(values)) if is_good(values[number])}
    return Machine(letters, rows, [at for at in range(len(lots))
                                   if any([one in good for one in lots[at]])])


def lot_of(states, numbers, values):
    """The ascending numbers of some states; states that come up first get the next numbers."""
    for state in states:
        if state not in numbers:
            numbers[state] = len(values)
            values.append(state)
    return tuple(sorted({numbers[state] for state in states}))


def check_states(many, limit=STATES):
    if limit is not None and many > limit:
        raise TooMany("states", limit + 1, limit)


def all_rows():
    """The Machine that accepts all rows."""
    return Machine([], [[0]], [0])


def no_rows():
    """The Machine that accepts no row."""
    return Machine([], [[0]], [])


def one_row(letters):
    """The Machine that accepts just one row."""
    row = list(letters)
    named = list({letter: True for letter in row})
    # the row's states, and one from which nothing is accepted
    check_states(len(row) + 2)
    numbers = {named[at]: at for at in range(len(named))}
    lost = len(row) + 1
    rows = [[lost] * (len(named) + 1) for _ in range(len(row) + 2)]
    for at in range(len(row)):
        rows[at][numbers[row[at]]] = at + 1
    return Machine(named, rows, [len(row)])
