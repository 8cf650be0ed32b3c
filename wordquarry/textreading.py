"""Texts read from left to right, up to the first sign with which none goes on."""

from wordquarry.errors import BadText
from wordquarry.figures import number_of
from wordquarry.signs import FIGURES


class TextReader:
    """Reads a text; at is how many signs were read."""

    def __init__(self, text):
        if not isinstance(text, str):
            raise BadText(1, 1)
        self._text = text
        self.at = 0

    def is_end(self):
        return self.at == len(self._text)

    def next_sign(self):
        """The next sign, empty at the end."""
        return self._text[self.at:self.at + 1]

    def go_to(self, place):
        """Goes on, or back, to a place."""
        self.at = place

    def fail(self):
        """The next sign is wrong: the error tells its line and its column."""
        ahead = self._text[:self.at].split("\n")
        raise BadText(len(ahead), len(ahead[-1]) + 1)

    def one_of(self, choices):
        """Reads one of some texts, none of which begins another one, and tells it."""
        furthest = 0
        for choice in choices:
            many = 0
            while many < len(choice) and self._text[self.at + many:self.at + many + 1] == choice[many]:
                many += 1
            if many == len(choice):
                self.at += many
                return choice
            furthest = max(furthest, many)
        self.at += furthest
        self.fail()

    def read_number(self, least, most):
        """Reads a number without a nought ahead, as long as it can go on up to most."""
        begin = self.at
        while self.next_sign() != "" and self.next_sign() in FIGURES:
            figures = self._text[begin:self.at + 1]
            if figures[0] == "0" and (len(figures) > 1 or least > 0) or number_of(figures) > most:
                break
            self.at += 1
        if self.at == begin or number_of(self._text[begin:self.at]) < least:
            self.fail()
        return number_of(self._text[begin:self.at])
