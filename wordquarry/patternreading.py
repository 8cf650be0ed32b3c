"""Texts of patterns, read from left to right."""

from wordquarry.errors import BadText
from wordquarry.nearreading import NearReader
from wordquarry.nearrules import NearRule
from wordquarry.patterns import (any_row, both, either, near, plain, prefix, span, wild, without)
from wordquarry.strokes import LAST_WORD, read_wild, read_word

BRACKETS = 20
SIGN_STROKES = {"\\": "\\", "<": "{", ">": "}"}
TIGHTNESS = {"(": 0, "|": 1, "&": 2, "-": 2}


class PatternReader:
    """Reads a pattern; what stands ahead of a sign that is still open waits."""

    def __init__(self, text):
        self._text = text
        self._at = 0
        self._found = []
        self._waiting = []

    def read(self):
        """The pattern of the text."""
        self._operand()
        while self._at < len(self._text):
            sign = self._next()
            if sign == ")" and "(" in self._waiting:
                self._join_down_to(1)
                self._waiting.pop()
                self._at += 1
            elif sign in ("&", "-", "|"):
                self._join_down_to(TIGHTNESS[sign])
                self._waiting.append(sign)
                self._at += 1
                self._operand()
            else:
                self._fail()
        if "(" in self._waiting:
            self._fail()
        self._join_down_to(1)
        return self._found[0]

    def _next(self):
        """The next sign, empty at the end."""
        return self._text[self._at:self._at + 1]

    def _fail(self):
        raise BadText(1, self._at + 1)

    def _take(self, signs):
        """Goes behind signs that have to come."""
        for sign in signs:
            if self._next() != sign:
                self._fail()
            self._at += 1

    def _join_down_to(self, tightness):
        """Joins what waits with signs that hold as tightly, up to the last bracket."""
        while len(self._waiting) > 0 and TIGHTNESS[self._waiting[-1]] >= tightness:
            sign = self._waiting.pop()
            two = self._found.pop()
            one = self._found.pop()
            if sign == "&":
                self._found.append(both(one, two))
            else:
                self._found.append(without(one, two) if sign == "-" else either(one, two))

    def _operand(self):
        """Reads brackets that open, and the leaf behind them."""
        while self._next() == "(":
            self._at += 1
            if self._next() == "'":
                word = self._word(None, True)
                if self._next() == ".":
                    self._span(word, False)
                else:
                    self._open_bracket()
                    self._behind_word(word)
                return
            self._open_bracket()
        self._leaf()

    def _open_bracket(self):
        if self._waiting.count("(") == BRACKETS:
            self._fail()
        self._waiting.append("(")

    def _leaf(self):
        sign = self._next()
        if sign == "'":
            self._behind_word(self._word(None, True))
        elif sign == "w":
            self._wild()
        elif sign == "[":
            self._at += 1
            if self._next() == "'":
                self._span(self._word(None, True), True)
            else:
                self._span(None, True)
        else:
            self._take("any")
            self._found.append(any_row())

    def _word(self, low, low_in):
        """A word, which may have to be behind a low one."""
        if self._next() != "'" or low is not None and not low_in and low == LAST_WORD:
            self._fail()
        word, self._at = read_word(self._text, self._at + 1, low, low_in)
        return word

    def _wild(self):
        self._take("w'")
        begin = self._at
        units, self._at = read_wild(self._text, begin)
        if len(units) == 0:
            self._fail()
        told = self._text[begin:self._at]
        self._take("'")
        self._found.append(wild(told))

    def _span(self, low, low_in):
        """Reads a span from behind its low word on."""
        self._take("..")
        if low is not None and self._next() == "]":
            self._at += 1
            self._found.append(span(low, None, low_in, True))
            return
        high = self._word(low, low_in)
        high_in = self._next() == "]"
        if not high_in and (self._next() != ")" or low == high):
            self._fail()
        self._at += 1
        self._found.append(span(low, high, low_in, high_in))

    def _behind_word(self, word):
        """Reads what makes a word more than a plain one."""
        if self._next() == "*":
            self._at += 1
            self._found.append(prefix(word))
        elif self._next() == "~":
            self._take("~<")
            self._found.append(near(word, self._near_rule()))
        else:
            self._found.append(plain(word))

    def _near_rule(self):
        """Reads a near rule and the sign > behind it."""
        reader = NearReader()
        told = []
        while self._next() != ">" or reader.wants_sign() or not reader.is_whole():
            sign = self._rule_sign(reader)
            reader.read(sign)
            told.append(sign)
            self._at += 1
        self._at += 1
        return NearRule("".join(told))

    def _rule_sign(self, reader):
        """The next sign of a rule, which has to be one with which it goes on."""
        sign = self._next()
        if reader.wants_sign():
            if sign == "\\":
                if not any([reader.goes_on(SIGN_STROKES[one]) for one in SIGN_STROKES]):
                    self._fail()
                self._at += 1
                sign = SIGN_STROKES.get(self._next(), "")
            elif sign in ("{", "}"):
                self._fail()
        elif sign == ";":
            sign = "\n"
        elif sign == "\n":
            self._fail()
        if sign == "" or not reader.goes_on(sign):
            self._fail()
        return sign
