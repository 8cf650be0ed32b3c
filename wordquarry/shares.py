"""Exact fractions."""

from math import gcd

from wordquarry.errors import BadNumber, BadText
from wordquarry.figures import number_of, told_number
from wordquarry.signs import FIGURES, is_integer


class Share:
    """An exact fraction in its least form."""

    def __init__(self, top, bottom=1):
        if bottom == 0:
            raise BadNumber("bottom", 0)
        common = gcd(top, bottom)
        if bottom < 0:
            common = -common
        self.top = top // common
        self.bottom = bottom // common

    def written(self):
        if self.bottom == 1:
            return told_number(self.top)
        return told_number(self.top) + "/" + told_number(self.bottom)

    def __add__(self, other):
        top, bottom = parts_of(other)
        return Share(self.top * bottom + top * self.bottom, self.bottom * bottom)

    def __sub__(self, other):
        top, bottom = parts_of(other)
        return Share(self.top * bottom - top * self.bottom, self.bottom * bottom)

    def __mul__(self, other):
        top, bottom = parts_of(other)
        return Share(self.top * top, self.bottom * bottom)

    def over(self, other):
        """This share divided by another one, or by an integer."""
        top, bottom = parts_of(other)
        return Share(self.top * bottom, self.bottom * top)

    def compared(self, other):
        """Below 0, 0 or above 0: this share is less than, equal to, greater than the other one."""
        top, bottom = parts_of(other)
        return self.top * bottom - top * self.bottom

    def under(self, other):
        return self.compared(other) < 0

    def at_most(self, other):
        return self.compared(other) <= 0

    def __eq__(self, other):
        if isinstance(other, Share):
            return self.top == other.top and self.bottom == other.bottom
        return is_integer(other) and self.bottom == 1 and self.top == other


def parts_of(value):
    """The top and the bottom of a share or an integer."""
    if isinstance(value, Share):
        return value.top, value.bottom
    return value, 1


def share_of(text):
    """The share of a written form."""
    begin = 0
    if text.startswith("-"):
        begin = 1
    stop = end_of_figures(text, begin)
    if stop == begin or text[:2] == "-0":
        raise BadText(1, begin + 1)
    top = number_of(text[begin:stop])
    if begin == 1:
        top = -top
    if stop == len(text):
        return Share(top)
    if text[stop] != "/":
        raise BadText(1, stop + 1)
    end = end_of_figures(text, stop + 1)
    if end == stop + 1 or text[stop + 1] == "0":
        raise BadText(1, stop + 2)
    if end < len(text):
        raise BadText(1, end + 1)
    return Share(top, number_of(text[stop + 1:]))


def end_of_figures(text, begin):
    """The place behind the figures that begin at a place; a nought ahead stands alone."""
    if text[begin:begin + 1] == "0":
        return begin + 1
    at = begin
    while at < len(text) and text[at] in FIGURES:
        at += 1
    return at
