"""Which papers must be looked at, if just the lists and the bounds of their blocks are known."""

from wordquarry.best import is_ahead, parts_by_number, plain_best, sum_of
from wordquarry.errors import NoPlace
from wordquarry.passing import Part
from wordquarry.signs import is_integer


def papers_to_look_at(parts, k):
    """The best papers, and the further ones that must be looked at: two lists of numbers."""
    rows = plain_best(parts, k)
    chosen = {row[0]: True for row in rows}
    indices = parts_by_number(parts)
    further = []
    for number in indices:
        if number not in chosen:
            bound = sum_of([parts[index].bound(number) for index in indices[number]])
            if is_ahead((number, bound), rows[-1]):
                further.append(number)
    return list(chosen), further


def must_look(parts, k):
    """The numbers of all papers that must be looked at."""
    chosen, further = papers_to_look_at(parts, k)
    return tuple(sorted(chosen + further))


def lifted(parts, k, number):
    """Parts with the same lists and bounds in which a paper that must be looked at is one of the
    best, as its scores are the bounds of its blocks."""
    further = papers_to_look_at(parts, k)[1]
    if not is_integer(number) or number not in further:
        raise NoPlace(number)
    return tuple([lifted_part(part, number) for part in parts])


def lifted_part(part, number):
    """A part in which a paper's score is the bound of its block."""
    scores = []
    for one in part.source.numbers:
        scores.append(part.bound(one) if one == number else part.score(one))
    return Part(part.source, scores)
