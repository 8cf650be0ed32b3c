"""Words and wild texts as they stand in the texts of patterns, with strokes ahead of some signs."""

from wordquarry.errors import BadText
from wordquarry.signs import WORD_LENGTH, row_signs

STROKE = "\\"
STROKES = {"'": "'", "\\": "\\", "<": "{", ">": "}"}
WILD_STROKES = {"'": "'", "\\": "\\", "<": "{", ">": "}", "?": "?", "*": "*"}
# These do not stand without a stroke.
BARE = "'\\{}"
LAST_WORD = "~" * 40


def stroked(word):
    """A word with its strokes."""
    told = word.replace("\\", "\\\\").replace("'", "\\'")
    return told.replace("{", "\\<").replace("}", "\\>")


def stroked_rule(text):
    """The text of a near rule as it stands in a pattern."""
    told = text.replace("\\", "\\\\").replace("{", "\\<").replace("}", "\\>")
    return told.replace("\n", ";")


def read_word(text, at, low, low_in):
    """A word from a place on, and the place behind its end. With a low word it has to be behind
    that, or, with low_in, equal to it; low may be None."""
    word = ""
    while at < len(text) and text[at] != "'":
        sign = text[at]
        if sign == STROKE:
            if not any([may_begin(word + STROKES[one], low, low_in) for one in STROKES]):
                raise BadText(1, at + 1)
            at += 1
            if at == len(text) or text[at] not in STROKES:
                raise BadText(1, at + 1)
            sign = STROKES[text[at]]
        elif sign in BARE or sign not in row_signs():
            raise BadText(1, at + 1)
        if not may_begin(word + sign, low, low_in):
            raise BadText(1, at + 1)
        word += sign
        at += 1
    if at == len(text) or not may_be(word, low, low_in):
        raise BadText(1, at + 1)
    return word, at + 1


def may_begin(word, low, low_in):
    """Whether a word that may come begins so."""
    if len(word) > WORD_LENGTH:
        return False
    if low is None or word > low and not low.startswith(word):
        return True
    if not low.startswith(word):
        return False
    return low_in or word + LAST_WORD[len(word):] > low


def may_be(word, low, low_in):
    """Whether a word may come."""
    if word == "":
        return False
    return low is None or word > low or low_in and word == low


def read_wild(text, at):
    """The units of a wild text from a place on, and the first place where no unit is: a unit is
    (sign,), or () for any one sign, or None for any signs."""
    units = []
    while at < len(text) and len(units) < WORD_LENGTH:
        sign = text[at]
        if sign == STROKE:
            at += 1
            if at == len(text) or text[at] not in WILD_STROKES:
                raise BadText(1, at + 1)
            units.append((WILD_STROKES[text[at]],))
        elif sign == "*":
            units.append(None)
        elif sign == "?":
            units.append(())
        elif sign in BARE or sign not in row_signs():
            return units, at
        else:
            units.append((sign,))
        at += 1
    return units, at
