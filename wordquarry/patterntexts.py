"""Patterns out of texts."""

from wordquarry.errors import BadText
from wordquarry.patternreading import PatternReader

LONGEST = 2000


def pattern_of(text):
    """The pattern of a text."""
    if not isinstance(text, str):
        raise BadText(1, 1)
    pattern = PatternReader(text[:LONGEST]).read()
    if len(text) > LONGEST:
        raise BadText(1, LONGEST + 1)
    return pattern
