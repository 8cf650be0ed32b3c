"""Stretches of texts: pairs (start, end)."""

from wordquarry.errors import BadWord
from wordquarry.signs import is_integer, is_text


def are_marked(stretches, many):
    """Whether a value is a list of marked stretches of a text of so many signs."""
    if not isinstance(stretches, (list, tuple)):
        return False
    behind = 0
    for stretch in stretches:
        if not isinstance(stretch, (list, tuple)) or len(stretch) != 2:
            return False
        start, end = stretch
        if not is_integer(start) or not is_integer(end) or not behind <= start < end <= many:
            return False
        behind = end
    return True


def check_marked(text, stretches):
    """The errors of a text and of its marked stretches."""
    if not is_text(text):
        raise BadWord("text")
    if not are_marked(stretches, len(text)):
        raise BadWord("stretches")
