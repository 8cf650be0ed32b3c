"""Scorings: how numbers of a leaf become a score."""

from wordquarry.errors import BadScoring, BadWord
from wordquarry.scoringtexts import ScoringReader, told_scoring
from wordquarry.shares import Share
from wordquarry.signs import is_text


class Scoring:
    """A rarity times a sum over a sum, told by a text; it never changes."""

    def __init__(self, text):
        if not is_text(text):
            raise BadWord("text")
        self.rarity, self.above, self.below = ScoringReader(text).read()
        self.told = told_scoring(self.rarity, self.above, self.below)
        if may_go_wrong(self):
            raise BadScoring(wrong_numbers(self))

    def score(self, papers, having, total, length, count):
        """The score for the numbers of a leaf."""
        long = Share(length * papers, total)
        score = value_of(self.above, count, long).over(value_of(self.below, count, long))
        return rarity_of(self.rarity, papers, having) * score

    def __eq__(self, other):
        return isinstance(other, Scoring) and self.told == other.told


def value_of(factors, one, two):
    """A sum, for the numbers of its two names."""
    return factors[0] * one + factors[1] * two + factors[2]


def rarity_of(rarity, papers, having):
    if rarity == "":
        return Share(1)
    if rarity == "ratio":
        return Share(papers, having)
    if rarity == "steps":
        # so often a number can be doubled without becoming more than the quotient, and once more
        return Share((papers // having).bit_length())
    return value_of(rarity[0], papers, having).over(value_of(rarity[1], papers, having))


def is_rarity_nothing(rarity):
    """Whether the rarity is 0 for all papers and having."""
    return not isinstance(rarity, str) and all([factor.top == 0 for factor in rarity[0]])


def falls_below(factors, two_is_free):
    """Whether a sum is below 0 for some numbers: one from 1 on, the other one any above 0, or from
    1 up to the first one."""
    one, two, rest = factors
    if two_is_free:
        return one.under(0) or two.under(0) or (one + rest).under(0)
    return one.under(0) or (one + two).under(0) or (one + two + rest).under(0)


def may_go_wrong(scoring):
    """Whether for some numbers a bottom is not above 0, or the rarity or the score is below 0."""
    below = scoring.below
    if falls_below(below, True) or below[1].top == 0 and (below[0] + below[2]).top == 0:
        return True
    if not isinstance(scoring.rarity, str):
        top, bottom = scoring.rarity
        if falls_below(bottom, False) or (bottom[0] + bottom[1] + bottom[2]).top == 0:
            return True
        if falls_below(top, False):
            return True
    return falls_below(scoring.above, True) and not is_rarity_nothing(scoring.rarity)


def goes_wrong(scoring, numbers):
    """Whether a scoring goes wrong for some numbers."""
    papers, having, total, length, count = numbers
    long = Share(length * papers, total)
    if value_of(scoring.below, count, long).at_most(0):
        return True
    if not isinstance(scoring.rarity, str):
        if value_of(scoring.rarity[1], papers, having).at_most(0):
            return True
        if value_of(scoring.rarity[0], papers, having).under(0):
            return True
    return scoring.score(papers, having, total, length, count).under(0)


def wrong_numbers(scoring):
    """Numbers for which a scoring goes wrong, of which there are some."""
    great = 1
    while True:
        for numbers in extreme_numbers(great):
            if goes_wrong(scoring, numbers):
                return numbers
        great = great * 2


def extreme_numbers(great):
    """Numbers of which each is small or great, with a long that is small, middling or great: what
    is wrong for some numbers is so for such ones, if great is great enough."""
    found = []
    for papers, having in ((1, 1), (2, 1), (2, 2), (great, 1), (great, great)):
        for count in (1, great):
            for total in (count, count * great * great):
                found.append((papers, having, total, count, count))
    return found
