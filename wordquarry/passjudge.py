"""Rules of passing judged for all lists, scores and numbers of best papers.

A condition passes a paper wrongly if the paper is ahead of the least one then. This is most easily
so if the parts that were not looked at have just the bounds of their blocks as scores: then the
sum of the condition, less the score of the paper, is a constant and for each such part an amount
that depends on its bounds alone. The least amount, times the number of parts, decides."""

from wordquarry.best import rounded, sum_of
from wordquarry.errors import TooMany
from wordquarry.layouts import Layout
from wordquarry.passing import Part
from wordquarry.postings import PostingList
from wordquarry.shares import Share

MOST_PARTS = 60
# A way to make a condition pass wrongly: what is made greater or less until it does.
BY_SEEN = 0
BY_TOPS = 1
BY_BLOCKS = 2
BY_PARTS = 3


class Miss:
    """A paper, one of the best k, that a line of a rule passes, with so many parts left."""

    def __init__(self, line, many, parts, k, number):
        self.line = line
        self.many = many
        self.parts = parts
        self.k = k
        self.number = number


class Case:
    """A paper: what was seen of it, and the bounds and tops of its parts that are left."""

    def __init__(self, seen, bounds, tops):
        self.seen = seen
        self.bounds = bounds
        self.tops = tops

    def score(self):
        """The greatest score that the paper may have."""
        return self.seen + sum_of(self.bounds)


def told_sum(rule, condition, case):
    """The sum of a condition, asked for a case."""
    blocks = sum_of([rounded(bound, rule.rounding) for bound in case.bounds])
    lists = sum_of([rounded(top, rule.rounding) for top in case.tops])
    told = case.seen * condition[0] + blocks * condition[1] + lists * condition[2]
    return told + condition[3] * len(case.bounds) + condition[4]


def is_strict(rule, condition):
    """Whether a paper can be passed wrongly only if the sum is below its score."""
    return condition[5] != "<=" or rule.order == "ascending"


def way_of(rule, line):
    """How a line is most easily made to pass wrongly: the first three ways need one part alone."""
    condition = rule.ahead if line == "ahead" else rule.between
    if line == "between" and condition[0].under(1):
        return BY_SEEN
    if condition[2].under(0):
        return BY_TOPS
    if (condition[1] + condition[2]).under(1):
        return BY_BLOCKS
    return BY_PARTS


def rounding_of(rule):
    """The way and the share of the rounding of a rule, an empty way without one."""
    return ("", Share(0)) if rule.rounding is None else rule.rounding


def least_many(rule, line):
    """With how many parts left a line can pass wrongly, at least; None if it never does."""
    condition = rule.ahead if line == "ahead" else rule.between
    if condition is None:
        return None
    if way_of(rule, line) != BY_PARTS:
        return 1
    way, unit = rounding_of(rule)
    each = condition[3]
    rest = condition[4]
    strict = is_strict(rule, condition)
    if way == "down":
        each = each - unit
        strict = True
    elif way == "near":
        each = each - unit.over(2)
        strict = True
    elif way == "up" and line == "ahead" and rule.order == "ascending":
        # a score of 0 is ahead of none there, so one bound has to be above 0
        rest = rest + unit * (condition[1] + condition[2] - 1)
    return least_times(each, rest, strict)


def least_times(each, rest, strict):
    """The least number from 1 on, times which each, and rest, are below 0 (not strict: at most 0);
    None if there is none."""
    if (each + rest).under(0) or not strict and each + rest == 0:
        return 1
    if not each.under(0):
        return None
    times = rest.over(each * -1)
    if strict:
        return times.top // times.bottom + 1
    return -(-times.top // times.bottom)


def drawn_case(rule, line, many, turn):
    """A case for the way of a line; the further the turn, the more it tends to pass wrongly."""
    way = way_of(rule, line)
    great = Share(1 << turn)
    small = Share(1, 1 << turn)
    if way == BY_SEEN:
        return Case(great, [Share(0)], [Share(0)])
    if way == BY_TOPS:
        return Case(Share(0), [Share(1)], [great])
    if way == BY_BLOCKS:
        return Case(Share(0), [great], [great])
    rounding, unit = rounding_of(rule)
    if rounding == "down" or rounding == "near":
        reach = unit if rounding == "down" else unit.over(2)
        bounds = [reach - reach * small.over(2)] * many
        return Case(Share(0), bounds, bounds)
    bounds = [Share(0)] * many
    if rule.order != "ascending":
        return Case(Share(0), bounds, bounds)
    if line == "between":
        return Case(small, bounds, bounds)
    bounds = [unit if rounding == "up" else small] + bounds[1:]
    return Case(Share(0), bounds, bounds)


def wrong_case(rule, line, many):
    """A case that the line passes wrongly."""
    condition = rule.ahead if line == "ahead" else rule.between
    turn = 0
    case = drawn_case(rule, line, many, turn)
    while not is_wrong(rule, condition, case):
        turn += 1
        case = drawn_case(rule, line, many, turn)
    return case


def is_wrong(rule, condition, case):
    score = case.score()
    told = told_sum(rule, condition, case)
    if rule.order == "ascending":
        return told.under(score) and Share(0).under(score)
    return told.under(score) or not is_strict(rule, condition) and told == score


def least_score(rule, condition, case):
    """A score of the least paper, behind that of the case, at which the case is passed."""
    if rule.order != "ascending":
        return case.score()
    told = told_sum(rule, condition, case)
    if told.under(0):
        told = Share(0)
    return (told + case.score()).over(2)


def missed(rule):
    """None if a rule is right for all parts; otherwise a Miss with the fewest parts left."""
    many = {}
    for line in ("ahead", "between"):
        least = least_many(rule, line)
        if least is not None:
            many[line] = least
    if len(many) == 0:
        return None
    line = min(list(many), key=lambda one: (many[one], one))
    if many[line] > MOST_PARTS:
        raise TooMany("parts", many[line], MOST_PARTS)
    return miss_of(rule, line, many[line])


def miss_of(rule, line, many):
    """A Miss for a line with so many parts left. Two papers are looked at first: the least one, and
    a great one, which gives blocks and lists their bounds."""
    condition = rule.ahead if line == "ahead" else rule.between
    case = wrong_case(rule, line, many)
    least = least_score(rule, condition, case)
    paper, other, great = (2, 0, 1) if rule.order == "ascending" else (0, 1, 2)
    parts = []
    bound = Share(0)
    if line == "between":
        bound = bound_of_seen(rule, case, least)
        parts.append(scored_part({paper: case.seen, great: bound}, 2))
    for at in range(many):
        rows = {paper: case.bounds[at]}
        if case.bounds[at].under(case.tops[at]):
            rows[great] = case.tops[at]
        parts.append(scored_part(rows, 1))
    every = [bound] + case.bounds
    told = sum_of([rounded(one, rule.rounding) for one in every])
    reach = told + rounding_of(rule)[1] * 2 + least + 1
    parts.append(scored_part({other: least, great: reach}, 2))
    return Miss(line, many, tuple(parts), 2, paper)


def bound_of_seen(rule, case, least):
    """A bound for the part that is looked at, so great that the line ahead does not pass."""
    bound = case.seen + 1
    if rule.ahead is not None:
        told = told_sum(rule, rule.ahead, whole_case(case, bound))
        while told.at_most(least):
            bound = bound * 2
            told = told_sum(rule, rule.ahead, whole_case(case, bound))
    return bound


def whole_case(case, bound):
    """A case before its first part was looked at."""
    return Case(Share(0), [bound] + case.bounds, [bound] + case.tops)


def scored_part(scores, block):
    """A part with a score for each of some papers, in blocks of so many rows."""
    numbers = sorted(scores)
    lengths = {number: 1 for number in numbers}
    layout = Layout("blocks of " + str(block))
    source = PostingList([(number, (0,)) for number in numbers], lengths, layout)
    return Part(source, [scores[number] for number in numbers])
