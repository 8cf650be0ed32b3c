"""How scorings rank, decided for all numbers.

A score is a quotient of two sums. Whether it is greater for one pair (count, long) than for another
one depends on the products of their factors alone: on the cross product of the two rows of
factors, multiplied by that of the two pairs."""

from wordquarry.errors import BadNumber
from wordquarry.scorings import is_rarity_nothing
from wordquarry.shares import Share
from wordquarry.signs import is_integer


def crossed(scoring):
    """The cross product of the factors of both sums."""
    one = scoring.above
    two = scoring.below
    return (one[1] * two[2] - one[2] * two[1], one[2] * two[0] - one[0] * two[2],
            one[0] * two[1] - one[1] * two[0])


def falls_by_count(scoring):
    """Numbers at which the score becomes less if count grows by one; None if it never does."""
    across = crossed(scoring)
    # with a long the change is as great as long times the last part, less the middle one
    if is_rarity_nothing(scoring.rarity):
        return None
    if not across[2].under(0) and across[1].at_most(0):
        return None
    great = 1
    while True:
        for papers, having in few_papers(great):
            for total in (2, 2 * great * great):
                one = scoring.score(papers, having, total, 2, 1)
                if scoring.score(papers, having, total, 2, 2).under(one):
                    return (papers, having, total, 2, 1)
        great = great * 2


def grows_by_length(scoring):
    """Numbers at which the score becomes greater if length grows by one; None if it never does."""
    across = crossed(scoring)
    if is_rarity_nothing(scoring.rarity):
        return None
    # with a count the change is as great as the first part, less count times the last one
    if not across[2].under(0) and (across[0] - across[2]).at_most(0):
        return None
    great = 1
    while True:
        for papers, having in few_papers(great):
            for count in (1, great):
                one = scoring.score(papers, having, count + 1, count, count)
                if one.under(scoring.score(papers, having, count + 1, count + 1, count)):
                    return (papers, having, count + 1, count, count)
        great = great * 2


def few_papers(great):
    """Pairs (papers, having), small and great ones: some of both have a rarity, if any has."""
    return ((1, 1), (2, 1), (2, 2), (great, 1), (great, great))


def greatest(scoring, papers, having, total, most, least):
    """The greatest score over counts up to most and lengths from least on, its length and count.
    As the score only rises or falls along each line, a corner of what is let has it."""
    if not is_integer(most) or most < 1:
        raise BadNumber("most", most)
    if not is_integer(least) or not 1 <= least <= total:
        raise BadNumber("least", least)
    top = min(most, total)
    corners = [(least, 1), (total, 1), (total, top), (least, min(most, least)),
               (max(least, top), top)]
    best = None
    for length, count in corners:
        score = scoring.score(papers, having, total, length, count)
        if best is None or best[0].under(score):
            best = (score, length, count)
    return best


def zeros_of(scoring):
    """For which papers and having from 2 on the rarity is 0: "none", "all" or "equal" ones. As it
    is never below 0, there are no others."""
    if isinstance(scoring.rarity, str):
        return "none"
    papers, having, rest = scoring.rarity[0]
    if (papers * 2 + having * 2 + rest).top != 0:
        return "none"
    return "all" if papers.top == 0 else "equal"


def ranked_apart(one, other):
    """Numbers of two papers that do not stand in the same order by two scorings, or None."""
    rows = [crossed(one), crossed(other)]
    zeros = [zeros_of(one), zeros_of(other)]
    flat = [zeros[at] == "all" or is_nothing(rows[at]) for at in range(2)]
    if flat[0] or flat[1]:
        if flat[0] and flat[1]:
            return None
        return pair_on(telling_line(rows[1] if flat[0] else rows[0]), False)
    if zeros[0] != zeros[1]:
        return pair_on(telling_line(rows[1] if zeros[0] == "equal" else rows[0]), True)
    line = line_apart(rows[0], rows[1])
    return None if line is None else pair_on(line, False)


def is_nothing(row):
    return all([share.top == 0 for share in row])


# A line is a pair (slope, long at count 0); all that are used here have points with counts and
# longs above 0.


def change_along(row, line):
    """Above 0, 0 or below 0: how the score changes along a line; row is a cross product."""
    slope, begin = line
    return row[1] - row[0] * slope - row[2] * begin


def telling_line(row):
    """A line along which the score changes. No sum of slope and beginning is 0 for all three."""
    lines = [(Share(1), Share(0)), (Share(2), Share(0)), (Share(1), Share(1))]
    return [line for line in lines if change_along(row, line).top != 0][0]


def level_lines(row):
    """Two lines along which the score stays, none if there are none."""
    if row[2].top != 0:
        return [(slope, (row[1] - row[0] * slope).over(row[2])) for slope in (Share(1), Share(2))]
    if row[0].top == 0:
        return []
    slope = row[1].over(row[0])
    begin = slope * -2 if slope.under(0) else Share(0)
    return [(slope, begin + 1), (slope, begin + 2)]


def line_apart(one, other):
    """A line along which two scores do not change alike, None if there is none."""
    for row, further in ((one, other), (other, one)):
        for line in level_lines(row):
            if change_along(further, line).top != 0:
                return line
    line = telling_line(one)
    if change_along(one, line).under(0) == change_along(other, line).under(0):
        return None
    return line


def pair_on(line, is_equal):
    """Numbers of two papers on a line, with as many papers as having or with more."""
    slope, begin = line
    count = 1
    if Share(0).under(slope) and begin.under(0):
        turn = (begin * -1).over(slope)
        count = turn.top // turn.bottom + 1
    one = slope * count + begin
    other = one + slope
    both = one + other
    papers = 3 + both.top // both.bottom
    # so that the lengths are whole numbers, and not less than the counts
    times = one.bottom * other.bottom * (count + 1)
    lengths = [share.top * (times // share.bottom) for share in (one, other)]
    return (papers, papers if is_equal else 2, papers * times, lengths[0], count, lengths[1],
            count + 1)
