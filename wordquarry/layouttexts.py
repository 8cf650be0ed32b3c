"""Texts of layouts: read by all forms that a layout may have, up to where the last one goes wrong."""

from wordquarry.errors import BadText
from wordquarry.figures import number_of
from wordquarry.signs import FIGURES

# A form is a row of words and of bounds of numbers.
BLOCKS = (("blocks of ", (1, 16)), ("blocks free to ", (1, 16)))
EXCEPTIONS = ((), ("\nexceptions ", (1, 4), " of ", (1, 24), " bits"))
HEADS = ((), ("\nhead ", (0, 64), " bits"))


def read_layout(text):
    """(whether cuts are free, B, E, X, H) of a text of a layout."""
    if not isinstance(text, str):
        raise BadText(1, 1)
    furthest = 0
    for free in range(2):
        for excepting in range(2):
            for heading in range(2):
                form = BLOCKS[free] + EXCEPTIONS[excepting] + HEADS[heading]
                at, numbers = read_form(text, form)
                if at > len(text):
                    return told_layout(free == 1, numbers, excepting == 1, heading == 1)
                furthest = max(furthest, at)
    ahead = text[:furthest].split("\n")
    raise BadText(len(ahead), len(ahead[-1]) + 1)


def told_layout(is_free, numbers, is_excepting, is_heading):
    exceptions, wide = numbers[1:3] if is_excepting else (0, 0)
    return is_free, numbers[0], exceptions, wide, numbers[-1] if is_heading else 8


def read_form(text, form):
    """The place of the first sign with which no text of a form goes on, and the numbers; a place
    behind the end by one if the text is a whole one."""
    at = 0
    numbers = []
    for part in form:
        if isinstance(part, str):
            for sign in part:
                if text[at:at + 1] != sign:
                    return at, numbers
                at += 1
        else:
            begin = at
            while at < len(text) and is_beginning(text[begin:at + 1], part[1]):
                at += 1
            if at == begin or number_of(text[begin:at]) < part[0]:
                return begin, numbers
            numbers.append(number_of(text[begin:at]))
    return len(text) + 1 if at == len(text) else at, numbers


def is_beginning(figures, most):
    """Whether a number up to most begins with these figures, without a nought ahead."""
    if len([sign for sign in figures if sign not in FIGURES]) > 0:
        return False
    return (figures == "0" or figures[0] != "0") and number_of(figures) <= most
