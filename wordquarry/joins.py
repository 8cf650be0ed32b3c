"""Joins: cursors over what all, any, at least so many of some cursors have."""

from wordquarry.cursors import check_target
from wordquarry.errors import BadNumber
from wordquarry.signs import is_integer


class AllJoin:
    """Goes through the numbers that all of some cursors have."""

    def __init__(self, cursors):
        self._cursors = list(cursors)
        self.number = None
        self._meet()

    def _meet(self):
        """Comes to stand at the next number of the first cursor that all have. The other cursors
        only go to numbers that another one has, so that no block is read without need."""
        self.number = None
        if len(self._cursors) == 0 or self._cursors[0].number is None:
            return
        wanted = self._cursors[0].number
        agreed = 0
        at = 0
        while agreed < len(self._cursors):
            cursor = self._cursors[at]
            cursor.advance(wanted)
            if cursor.number is None:
                return
            agreed = agreed + 1 if cursor.number == wanted else 1
            wanted = cursor.number
            at = at + 1 if at + 1 < len(self._cursors) else 0
        self.number = wanted

    def go_on(self):
        if self.number is not None:
            self._cursors[0].go_on()
            self._meet()

    def advance(self, to):
        check_target(to)
        if self.number is not None and self.number < to:
            self._cursors[0].advance(to)
            self._meet()


class LeastJoin:
    """Goes through the numbers that at least so many of some cursors have."""

    def __init__(self, least, cursors):
        self._cursors = list(cursors)
        self._least = least
        self.number = None
        self._meet()

    def _meet(self):
        """No number below the least-th one of those at which the cursors stand is had so often."""
        self.number = None
        while True:
            numbers = sorted([cursor.number for cursor in self._cursors
                              if cursor.number is not None])
            if len(numbers) < self._least:
                return
            wanted = numbers[self._least - 1]
            for cursor in self._cursors:
                cursor.advance(wanted)
            if len([cursor for cursor in self._cursors if cursor.number == wanted]) >= self._least:
                self.number = wanted
                return

    def go_on(self):
        if self.number is not None:
            for cursor in self._cursors:
                if cursor.number == self.number:
                    cursor.go_on()
            self._meet()

    def advance(self, to):
        check_target(to)
        if self.number is not None and self.number < to:
            for cursor in self._cursors:
                cursor.advance(to)
            self._meet()


class BarredJoin:
    """Goes through the numbers that one cursor has and another one has not."""

    def __init__(self, one, other):
        self._one = one
        self._other = other
        self.number = None
        self._meet()

    def _meet(self):
        while self._one.number is not None:
            self._other.advance(self._one.number)
            if self._other.number != self._one.number:
                break
            self._one.go_on()
        self.number = self._one.number

    def go_on(self):
        if self.number is not None:
            self._one.go_on()
            self._meet()

    def advance(self, to):
        check_target(to)
        if self.number is not None and self.number < to:
            self._one.advance(to)
            self._meet()


def all_of(cursors):
    """The numbers that all cursors have."""
    return AllJoin(cursors)


def any_of(cursors):
    """The numbers that any cursor has."""
    return LeastJoin(1, cursors)


def barred(one, other):
    """The numbers that one cursor has and another one has not."""
    return BarredJoin(one, other)


def at_least(m, cursors):
    """The numbers that at least m cursors have."""
    if not is_integer(m) or m < 1:
        raise BadNumber("m", m)
    return LeastJoin(m, cursors)


def numbers_left(cursor):
    """All numbers of a cursor or a join from where it stands on; it goes behind the end."""
    found = []
    while cursor.number is not None:
        found.append(cursor.number)
        cursor.go_on()
    return found
