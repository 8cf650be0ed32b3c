"""Texts of rules of passing, read from left to right."""

from wordquarry.shares import Share
from wordquarry.signs import FIGURES
from wordquarry.textreading import TextReader

WORDS = ("seen", "blocks", "lists", "parts")
JOINS = (" + ", " - ")
TIMES = (" * ",)
RELATIONS = (" <= least", " < least", " behind least")
MOST_TERMS = 5
MOST_NUMBER = 1000000
ORDER_LINES = ("papers ascending", "papers descending", "papers by bounds")
WAY_LINES = ("bounds up by ", "bounds down by ", "bounds near by ")
CONDITION_LINES = ("ahead: ", "between: ")


class RuleReader:
    """Reads the lines of a rule in their order. At the end of a line it goes to the next one: what
    that may begin with, it knows from the lines that were not there so far."""

    def __init__(self, text):
        self._reader = TextReader(text)
        self._line = ""

    def _begin_line(self, choices):
        """Goes behind the end of a line, and behind the words with which the next one begins."""
        self._line = ""
        if len(choices) > 0 and not self._reader.is_end():
            self._reader.one_of(["\n"])
            self._line = self._reader.one_of(choices)

    def read_order(self):
        order = self._reader.one_of(ORDER_LINES)[len("papers "):]
        self._begin_line(WAY_LINES + CONDITION_LINES)
        return order

    def read_rounding(self):
        """The way and the share of the line of rounding, None if it is not there."""
        if self._line not in WAY_LINES:
            return None
        way = self._line[len("bounds "):-len(" by ")]
        share = self._share()
        self._begin_line(CONDITION_LINES)
        return way, share

    def read_condition(self, head, words):
        """The factors, the rest and the relation of a condition, None if it is not there."""
        if self._line != head:
            return None
        factors, rest, relation = self._sum(words)
        self._begin_line(CONDITION_LINES[1:] if head == CONDITION_LINES[0] else ())
        told = [factors.get(word, Share(0)) for word in WORDS]
        return (told[0], told[1], told[2], told[3], rest, relation[1:-len(" least")])

    def check_end(self):
        if not self._reader.is_end():
            self._reader.fail()

    def _sum(self, words):
        """The factors of the words, the sum of the shares that stand alone, and the relation."""
        factors = {}
        rest = Share(0)
        sign = 1
        for many in range(1, MOST_TERMS + 1):
            left = [word for word in words if word not in factors]
            ends = RELATIONS if many == MOST_TERMS else JOINS + RELATIONS
            factor, word, end = self._term(left, ends)
            if word == "":
                rest = rest + factor * sign
            else:
                factors[word] = factor * sign
            if end in RELATIONS:
                break
            sign = 1 if end == JOINS[0] else -1
        return factors, rest, end

    def _term(self, words, ends):
        """A factor, a word, which is empty for a share that stands alone, and what stands behind."""
        if self._reader.next_sign() == "" or self._reader.next_sign() not in FIGURES:
            word = self._reader.one_of(words)
            return Share(1), word, self._reader.one_of(ends)
        factor = self._share()
        end = self._reader.one_of(ends if len(words) == 0 else TIMES + ends)
        if end not in TIMES:
            return factor, "", end
        word = self._reader.one_of(words)
        return factor, word, self._reader.one_of(ends)

    def _share(self):
        top = self._reader.read_number(1, MOST_NUMBER)
        if self._reader.next_sign() != "/":
            return Share(top)
        self._reader.one_of(["/"])
        return Share(top, self._reader.read_number(1, MOST_NUMBER))
