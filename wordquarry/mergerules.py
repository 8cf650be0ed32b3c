"""Rules of merging: which neighbouring segments are merged, and what this makes of all rows of
flushes."""

from wordquarry.errors import BadNumber, BadText, TooMany
from wordquarry.figures import number_of
from wordquarry.signs import FIGURES, is_integer
from wordquarry.textreading import TextReader

MOST_FIGURES = 30
MOST_MANY = 20
MOST_PAPERS = 10 ** 30
MOST_ROW = 1000


class MergeRule:
    """Levels of sizes, how many neighbours of one level are merged, which segments are too great
    to be merged, and which have so many marked papers that they are; it never changes."""

    def __init__(self, text):
        reader = TextReader(text)
        reader.one_of(["levels "])
        self.base = read_bounded(reader, 1, None)
        reader.one_of([" "])
        self.factor = read_bounded(reader, 2, None)
        if reader.is_end():
            raise BadText(2, 1)
        reader.one_of(["\nmerge "])
        self.many = read_bounded(reader, 2, MOST_MANY)
        self.most = None
        self.dead = None
        head = next_head(reader, ["cap ", "dead "])
        if head == "cap ":
            self.most = read_bounded(reader, 1, None)
            head = next_head(reader, ["dead "])
        if head == "dead ":
            top = read_bounded(reader, 1, None)
            reader.one_of([" "])
            self.dead = (top, read_bounded(reader, top, None))
        if not reader.is_end():
            reader.fail()
        self.text = text

    def __eq__(self, other):
        return isinstance(other, MergeRule) and self.text == other.text

    def level(self, size):
        """The level of a size, None for one that is too great to have one."""
        if self.most is not None and size > self.most:
            return None
        level = 0
        bound = self.base * self.factor
        while size >= bound:
            level += 1
            bound = bound * self.factor
        return level

    def choice(self, rows):
        """The pair (place of the first, how many) of the segments that are merged, or None; rows
        has pairs (papers that live, papers that are marked)."""
        place = first_alike([self.level(living) for living, _ in rows], self.many, 0)
        if place is not None:
            return (place, self.many)
        if self.dead is not None:
            for at in range(len(rows)):
                living, marked = rows[at]
                if marked > 0 and marked * self.dead[1] >= (living + marked) * self.dead[0]:
                    return (at, 1)
        return None


def next_head(reader, choices):
    """The beginning of the next line, empty if there is none."""
    if reader.is_end():
        return ""
    reader.one_of(["\n"])
    return reader.one_of(choices)


def read_bounded(reader, least, most):
    """Reads a number; a wrong one is wrong at its first figure."""
    begin = reader.at
    figures = ""
    while reader.next_sign() != "" and reader.next_sign() in FIGURES:
        figures = figures + reader.next_sign()
        reader.go_to(reader.at + 1)
    if figures == "":
        reader.fail()
    if figures[0] != "0" and len(figures) <= MOST_FIGURES:
        number = number_of(figures)
        if number >= least and (most is None or number <= most):
            return number
    reader.go_to(begin)
    reader.fail()


def first_alike(levels, many, begin):
    """The place of the first of so many neighbours of one level, from a place on; None if there
    are none."""
    alike = 0
    for at in range(begin, len(levels)):
        if levels[at] is None:
            alike = 0
        elif alike > 0 and levels[at] == levels[at - 1]:
            alike += 1
        else:
            alike = 1
        if alike == many:
            return at - many + 1
    return None


def settled_sizes(rule, sizes):
    """The sizes when the rule chooses nothing more, and the places at which was merged."""
    sizes = list(sizes)
    levels = [rule.level(size) for size in sizes]
    places = []
    place = first_alike(levels, rule.many, 0)
    while place is not None:
        places.append(place)
        end = place + rule.many
        sizes[place:end] = [sum(sizes[place:end])]
        levels[place:end] = [rule.level(sizes[place])]
        # ahead of there nothing was alike, and nothing has changed
        place = first_alike(levels, rule.many, max(0, place - rule.many + 1))
    return tuple(sizes), tuple(places)


def check_papers(papers):
    if not is_integer(papers) or not 0 <= papers < MOST_PAPERS:
        raise BadNumber("papers", papers)


def least_parting(rule):
    """The least size that is not of the least level: it parts segments of one paper."""
    size = rule.base * rule.factor
    if rule.most is not None:
        size = min(size, rule.most + 1)
    return size


def most_segments(rule, papers):
    """The greatest number of segments behind a row of flushes with so many papers. As many as may
    be have one paper; ahead of each that would be the last of those that are merged, another
    segment parts them."""
    check_papers(papers)
    turns, rest = divmod(papers, rule.many - 1 + least_parting(rule))
    return turns * rule.many + min(rest, rule.many - 1)


def segments_row(rule, papers):
    """The sizes of such a row of flushes."""
    many = most_segments(rule, papers)
    if many > MOST_ROW:
        raise TooMany("segments", many, MOST_ROW)
    sizes = []
    for at in range(many):
        sizes.append(least_parting(rule) if (at + 1) % rule.many == 0 else 1)
    if many > 0:
        # a segment that parts others may be greater, and so may one that nothing parts
        at = rule.many - 1 if many >= rule.many else 0
        sizes[at] += papers - sum(sizes)
    return tuple(sizes)


def cheapest_merges(rule, papers):
    """The merges of one paper, as often as may be: pairs (size of each of the others, how often).
    Its segment stays as small as may be if the others are the least ones of its level."""
    size = 1
    merges = []
    while size <= papers:
        level = rule.level(size)
        if level is None:
            break
        other, end = bounds_of_level(rule, level)
        step = other * (rule.many - 1)
        if rule.most is not None:
            end = min(end, rule.most + 1)
        times = min(-((size - end) // step), (papers - size) // step)
        if times == 0:
            break
        merges.append((other, times))
        size += step * times
    return merges


def bounds_of_level(rule, level):
    """The least size of a level, and the size from which on sizes are above it."""
    end = rule.base * rule.factor
    least = 1
    for _ in range(level):
        least = end
        end = end * rule.factor
    return least, end


def most_rewritings(rule, papers):
    """How often one paper can be merged at most in a row of flushes with so many papers."""
    check_papers(papers)
    return sum([times for _, times in cheapest_merges(rule, papers)])


def rewritings_row(rule, papers):
    """The sizes of a row of flushes with which a paper of the first one is merged so often."""
    many = 1 + (rule.many - 1) * most_rewritings(rule, papers)
    if many > MOST_ROW:
        raise TooMany("flushes", many, MOST_ROW)
    if papers == 0:
        return ()
    sizes = [1]
    for other, times in cheapest_merges(rule, papers):
        sizes.extend([other] * (times * (rule.many - 1)))
    rest = papers - sum(sizes)
    return tuple(sizes + [rest] if rest > 0 else sizes)
