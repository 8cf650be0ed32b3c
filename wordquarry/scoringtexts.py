"""Texts of scorings: read from left to right, and told."""

from wordquarry.shares import Share
from wordquarry.signs import FIGURES
from wordquarry.textreading import TextReader

MOST_NUMBER = 999999999
HEADS = ("ratio times ", "steps times ")
JOINS = (" + ", " - ")
OVER = (" over ",)
NAMES = ("count", "long")
RARITY_NAMES = ("papers", "having")


class ScoringReader:
    """Reads a scoring. A sum is told as the factors of its two names, and the constant."""

    def __init__(self, text):
        self._reader = TextReader(text)

    def read(self):
        """The rarity ("", "ratio", "steps", or a pair of sums), and the sums A and B."""
        rarity = ""
        if self._reader.next_sign() == "(":
            self._reader.one_of(["("])
            top = self._sum(RARITY_NAMES, OVER)
            rarity = (top, self._sum(RARITY_NAMES, (")",)))
            self._reader.one_of([" times "])
        elif self._reader.next_sign() in ("r", "s"):
            rarity = self._reader.one_of(HEADS)[:len("ratio")]
        above = self._sum(NAMES, OVER)
        return rarity, above, self._sum(NAMES, ())

    def _sum(self, names, ends):
        """Reads a sum and what stands behind it: one of ends, or the end of the text."""
        totals = {}
        join = JOINS[0]
        if self._reader.next_sign() == "-":
            self._reader.one_of(["-"])
            join = JOINS[1]
        while join in JOINS:
            factor, name, further = self._term(names, ends)
            if join == JOINS[1]:
                factor = factor * -1
            totals[name] = totals.get(name, Share(0)) + factor
            join = further
        return tuple([totals.get(name, Share(0)) for name in (names[0], names[1], "")])

    def _term(self, names, ends):
        """The factor and the name of a term (empty for a constant), and what stands behind."""
        sign = self._reader.next_sign()
        if sign == "" or sign not in FIGURES:
            name = self._reader.one_of(names)
            return Share(1), name, self._behind(JOINS + ends, ends)
        factor = self._share()
        further = self._behind(("*",) + JOINS + ends, ends)
        if further != "*":
            return factor, "", further
        name = self._reader.one_of(names)
        return factor, name, self._behind(JOINS + ends, ends)

    def _behind(self, choices, ends):
        if len(ends) == 0 and self._reader.is_end():
            return ""
        return self._reader.one_of(choices)

    def _share(self):
        top = self._reader.read_number(0, MOST_NUMBER)
        if self._reader.next_sign() != "/":
            return Share(top)
        self._reader.one_of(["/"])
        return Share(top, self._reader.read_number(1, MOST_NUMBER))


def told_sum(factors, names):
    """The text of a sum."""
    told = ""
    for factor, name in zip(factors, (names[0], names[1], "")):
        if factor.top == 0:
            continue
        size = factor * -1 if factor.under(0) else factor
        term = size.written()
        if name != "":
            term = name if size == 1 else term + "*" + name
        if told == "":
            told = "-" + term if factor.under(0) else term
        else:
            told = told + (" - " if factor.under(0) else " + ") + term
    return "0" if told == "" else told


def told_scoring(rarity, above, below):
    """The one text of a scoring."""
    told = told_sum(above, NAMES) + " over " + told_sum(below, NAMES)
    if rarity == "":
        return told
    if isinstance(rarity, str):
        return rarity + " times " + told
    sums = told_sum(rarity[0], RARITY_NAMES) + " over " + told_sum(rarity[1], RARITY_NAMES)
    return "(" + sums + ") times " + told
