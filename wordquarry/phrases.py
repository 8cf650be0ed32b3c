"""Phrases: tokens of lists that stand near to one another."""

from wordquarry.errors import BadNumber, TooMany
from wordquarry.placings import least_cost
from wordquarry.signs import is_integer

MOST_PLACES = 8


def check_phrase(lists, groups, offsets, slop):
    """The errors of a phrase over some lists."""
    if len(groups) > MOST_PLACES:
        raise TooMany("places", len(groups), MOST_PLACES)
    for group in groups:
        for index in group:
            if not is_integer(index) or not 0 <= index < len(lists):
                raise BadNumber("groups", index)
    if not are_offsets(offsets, len(groups)):
        raise BadNumber("offsets", offsets)
    if not is_integer(slop) or slop < 0:
        raise BadNumber("slop", slop)


def are_offsets(value, many):
    """Whether a value is so many ascending integers, of which the first one is 0."""
    if not isinstance(value, (list, tuple)) or len(value) != many:
        return False
    for at in range(many):
        if not is_integer(value[at]) or at == 0 and value[0] != 0:
            return False
        if at > 0 and value[at] <= value[at - 1]:
            return False
    return True


def anchors_of(lists, groups, offsets, slop, number):
    """How many tokens of a paper can stand first in a placing that costs at most slop."""
    check_phrase(lists, groups, offsets, slop)
    return count_anchors(lists, groups, offsets, slop, number)


def near_rows(lists, groups, offsets, slop):
    """The rows (number, anchors) of all papers in which the phrase stands."""
    check_phrase(lists, groups, offsets, slop)
    found = []
    for number in numbers_of_groups(lists, groups[:1]):
        anchors = count_anchors(lists, groups, offsets, slop, number)
        if anchors > 0:
            found.append((number, anchors))
    return found


def numbers_of_groups(lists, groups):
    """The numbers of all lists of some groups, ascending."""
    return sorted(set([number for group in groups for index in group
                       for number in lists[index].numbers]))


def count_anchors(lists, groups, offsets, slop, number):
    spots = []
    for group in groups:
        tokens = [(place, index) for index in group if number in lists[index]
                  for place in lists[index].places_of(number)]
        if len(tokens) == 0:
            return 0
        spots.append(sorted(tokens))
    if len(spots) == 0:
        return 0
    return len([token for token in sorted(set(spots[0]))
                if least_cost(spots, offsets, token, slop) is not None])
