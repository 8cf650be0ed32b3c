"""The best papers: found by following a rule of passing, and by working out all scores."""

from wordquarry.errors import BadNumber
from wordquarry.passing import Rule
from wordquarry.shares import Share
from wordquarry.signs import is_integer

PLAIN_RULE = "papers by bounds\nahead: blocks behind least"


class BestRows:
    """What was found: the best papers, where was looked, and which papers were passed."""

    def __init__(self, rows, looked, passed):
        self.rows = rows
        self.looked = looked
        self.passed = passed


def check_many(k):
    """The error of a value that is no number of best papers."""
    if not is_integer(k) or k < 1:
        raise BadNumber("k", k)


def is_ahead(one, other):
    """Whether the row (number, score) of a paper is ahead of that of another one."""
    order = one[1].compared(other[1])
    return order > 0 or order == 0 and one[0] < other[0]


def put_in(rows, row):
    """Puts a row where it belongs among some, the first one ahead."""
    low = 0
    high = len(rows)
    while low < high:
        middle = (low + high) // 2
        if is_ahead(row, rows[middle]):
            high = middle
        else:
            low = middle + 1
    rows.insert(low, row)


def in_order(rows):
    """Some rows, the first one ahead."""
    runs = [[row] for row in rows]
    while len(runs) > 1:
        runs = [merged_runs(runs[at:at + 2]) for at in range(0, len(runs), 2)]
    return runs[0] if len(runs) == 1 else []


def merged_runs(runs):
    """One or two rows of rows, the first one ahead in each, as one."""
    if len(runs) == 1:
        return runs[0]
    one, two = runs
    rows = []
    at = 0
    for row in one:
        while at < len(two) and is_ahead(two[at], row):
            rows.append(two[at])
            at += 1
        rows.append(row)
    return rows + two[at:]


def parts_by_number(parts):
    """For each paper, by ascending numbers, the indices of the parts that have it."""
    found = {}
    for index in range(len(parts)):
        for number in parts[index].source.numbers:
            found.setdefault(number, []).append(index)
    return {number: found[number] for number in sorted(found)}


def sum_of(shares):
    total = Share(0)
    for share in shares:
        total = total + share
    return total


def plain_best(parts, k):
    """The best k papers, by working out all scores."""
    check_many(k)
    indices = parts_by_number(parts)
    rows = [(number, sum_of([parts[index].score(number) for index in indices[number]]))
            for number in indices]
    return in_order(rows)[:k]


class Search:
    """Looks at papers by a rule; what was found so far."""

    def __init__(self, parts, k, rule):
        self._parts = parts
        self._k = k
        self._rule = rule
        self._indices = parts_by_number(parts)
        self._bounds = [[rounded(bound, rule.rounding) for bound in part.bounds]
                        for part in parts]
        self._tops = [rounded(part.top, rule.rounding) for part in parts]
        self.rows = []
        self.looked = []
        self.passed = []

    def run(self):
        """Looks at all papers."""
        for number in self._in_turn():
            if not self._look_at(number):
                self.passed.append(number)

    def _bound_of(self, index, number):
        return self._bounds[index][self._parts[index].source.block_of(number)]

    def _in_turn(self):
        """The numbers of all papers, in the order of the rule."""
        numbers = list(self._indices)
        if self._rule.order == "ascending":
            return numbers
        if self._rule.order == "descending":
            return numbers[::-1]
        rows = [(number, sum_of([self._bound_of(index, number) for index in self._indices[number]]))
                for number in numbers]
        return [row[0] for row in in_order(rows)]

    def _look_at(self, number):
        """Works out the score of a paper; False if it was passed."""
        seen = Share(0)
        left = self._indices[number]
        if self._is_passed(self._rule.ahead, number, seen, left):
            return False
        while len(left) > 0:
            self.looked.append((number, left[0]))
            seen = seen + self._parts[left[0]].score(number)
            left = left[1:]
            if len(left) > 0 and self._is_passed(self._rule.between, number, seen, left):
                return False
        put_in(self.rows, (number, seen))
        if len(self.rows) > self._k:
            self.rows.pop()
        return True

    def _is_passed(self, condition, number, seen, left):
        """Whether a condition passes a paper, of which some parts are left."""
        if condition is None or len(self.rows) < self._k:
            return False
        blocks = sum_of([self._bound_of(index, number) for index in left])
        lists = sum_of([self._tops[index] for index in left])
        told = seen * condition[0] + blocks * condition[1] + lists * condition[2]
        told = told + condition[3] * len(left) + condition[4]
        least = self.rows[-1]
        if condition[5] == "<=":
            return told.at_most(least[1])
        if condition[5] == "<":
            return told.under(least[1])
        return is_ahead(least, (number, told))


def rounded(share, rounding):
    """A share as it is told to a rule."""
    if rounding is None:
        return share
    way, unit = rounding
    steps = share.over(unit)
    if way == "down":
        many = steps.top // steps.bottom
    elif way == "up":
        many = -(-steps.top // steps.bottom)
    else:
        many = (2 * steps.top + steps.bottom) // (2 * steps.bottom)
    return unit * many


def best(parts, k, rule=None):
    """What is found if a rule is followed."""
    check_many(k)
    search = Search(list(parts), k, Rule(PLAIN_RULE) if rule is None else rule)
    search.run()
    return BestRows(tuple(search.rows), tuple(sorted(search.looked)), tuple(sorted(search.passed)))
