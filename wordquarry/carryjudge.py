"""Carry rules, judged for all rows of deeds."""

from wordquarry.carrysearches import DeedSearch
from wordquarry.errors import BadWord
from wordquarry.ledgers import Ledger

PROMISES = ("gone", "there")


def least_deeds(rule, promise):
    """A row of the fewest deeds whose last one, a view, breaks a promise, or None."""
    if not isinstance(promise, str) or promise not in PROMISES:
        raise BadWord("promise")
    return DeedSearch(rule, promise).run()


def keeps_promise(rule, promise):
    """Whether a rule keeps a promise."""
    return least_deeds(rule, promise) is None


def promises_kept(rule):
    """The promises that a rule keeps."""
    return tuple([promise for promise in PROMISES if keeps_promise(rule, promise)])


class DeedPlay:
    """Does deeds on a ledger, and knows which papers are true."""

    def __init__(self, rule):
        self._ledger = Ledger(rule)
        self._place = 0
        self._true = {}
        self.views = []

    def play(self, deed):
        kind = deed[0]
        if kind == "put":
            self._ledger.put(deed[1])
            self._count(deed[1], False, True)
        elif kind == "drop":
            self._ledger.drop(deed[1])
            self._count(deed[1], True, False)
        elif kind == "exchange":
            self._ledger.exchange(deed[1])
            self._count(deed[1], True, True)
        elif kind == "flush":
            self._ledger.flush()
        elif kind == "begin":
            self._ledger.begin(deed[1], deed[2])
        elif kind == "end":
            self._ledger.end()
        elif kind == "give up":
            self._ledger.give_up()
        else:
            self._view()

    def _count(self, key, is_drop, is_put):
        """Notes which papers are true behind a deed."""
        self._place += 1
        if is_drop:
            self._true = {place: self._true[place] for place in self._true
                          if self._true[place] != key}
        if is_put:
            self._true[self._place] = key

    def _view(self):
        living = []
        for number, indices in self._ledger.view():
            places = self._ledger.places_of(number)
            living.extend([places[index] for index in indices])
        self.views.append((tuple(sorted(living)), tuple(sorted(self._true))))


def play_deeds(rule, row):
    """For each view of a row of deeds the places of the papers that it tells as living, and those
    of the true ones."""
    play = DeedPlay(rule)
    for deed in row:
        play.play(deed)
    return tuple(play.views)
