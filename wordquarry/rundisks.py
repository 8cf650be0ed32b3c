"""Disks as far as runs of a protocol tell them apart: what lies under the three names of lists, and
under the name of one file.

One file is enough: a run stays one if all files but one are left out of it, and what went wrong
with this file still does. A disk is a pair (seen, fixed). seen tells for each name what is seen
under it. fixed tells what the next cut will leave there, if names are not synced ahead of it: FREE
is what is seen then, as all deeds on this name so far will have landed; otherwise one of them will
not, so no later one will, either. SEEN_AT + n is the file that is seen under the name n by now.
So it is chosen with each deed on a name whether it will land."""

FILE = 3
NAMES = 4
ABSENT = 0
# A list or a file of which a part is left; for the file also a row that is not the one meant.
TORN = 1
# What the list told last tells, what the next one does, what older lists told: with rows that are
# on their way, and, one more, with rows that are not.
TOLD = 2
NEXT = 4
OLDER = 6
SEEN_AT = 8
FREE = 15

EMPTY_DISK = ((0, 0, 0, 0), (15, 15, 15, 15))
# What becomes of each value if the next list is told, for lists; if it is not; for the file if it
# is a new one, if it is dropped, and if the next list is not told.
LISTS_TOLD = (0, 1, 6, 7, 2, 3, 6, 7)
LISTS_KEPT = (0, 1, 2, 3, 6, 7, 6, 7)
FILE_TOLD = (0, 1, 1, 1, 2, 3, 1, 1)
FILE_DROPPED = (0, 1, 1, 1, 1, 1, 1, 1)
FILE_KEPT = (0, 1, 2, 3, 1, 1, 1, 1)
SAME = (0, 1, 2, 3, 4, 5, 6, 7)


def is_loose(value):
    """Whether a row is whole as it is seen, but on its way."""
    return value in (TOLD, NEXT, OLDER)


def with_item(row, at, value):
    return row[:at] + (value,) + row[at + 1:]


def fixed_value(disk, at):
    """What a cut leaves under a name, if the next deed on it does not land."""
    seen, fixed = disk
    if fixed[at] != FREE:
        return fixed[at]
    return SEEN_AT + at if is_loose(seen[at]) else seen[at]


def unseen(fixed, at, value):
    """What a cut leaves, once the file that was seen under a name is not seen any more."""
    return tuple([value if one == SEEN_AT + at else one for one in fixed])


def put_under(disk, at, value):
    """The disks behind a deed that puts something under a name, or removes what is there: pairs
    (disk, whether it will land)."""
    seen, fixed = disk
    after = with_item(seen, at, value)
    held = unseen(with_item(fixed, at, fixed_value(disk, at)), at, seen[at])
    if fixed[at] != FREE:
        return [((after, held), False)]
    return [((after, unseen(fixed, at, seen[at])), True), ((after, held), False)]


def renamed(disk, one, two):
    """The disks behind a deed that renames what lies under a name."""
    seen, fixed = disk
    after = with_item(with_item(seen, two, seen[one]), one, ABSENT)
    held = with_item(fixed, one, fixed_value(disk, one))
    held = with_item(held, two, fixed_value(disk, two))
    ways = []
    if fixed[one] == FREE and fixed[two] == FREE:
        ways.append(((after, moved(fixed, seen, one, two)), True))
    ways.append(((after, moved(held, seen, one, two)), False))
    return ways


def moved(fixed, seen, one, two):
    """What a cut leaves, once the file under the first name is seen under the second one."""
    held = unseen(fixed, two, seen[two])
    return tuple([SEEN_AT + two if value == SEEN_AT + one else value for value in held])


def synced(disk, at):
    """The disk behind a sync of the file under a name."""
    seen, fixed = disk
    if not is_loose(seen[at]):
        return disk
    return with_item(seen, at, seen[at] + 1), unseen(fixed, at, seen[at] + 1)


def left_by_cut(disk):
    """The disks that a cut may leave: pairs (disk, the names whose files are torn by it)."""
    seen, fixed = disk
    rows = [((), ())]
    for at in range(NAMES):
        value = fixed[at]
        if value == FREE:
            value = seen[at]
        elif value >= SEEN_AT:
            value = seen[value - SEEN_AT]
        if is_loose(value):
            lost = [(row + (TORN,), torn + (at,)) for row, torn in rows]
            rows = [(row + (value + 1,), torn) for row, torn in rows] + lost
        else:
            rows = [(row + (value,), torn) for row, torn in rows]
    return [((row, EMPTY_DISK[1]), torn) for row, torn in rows]


def relabelled(disk, lists, file):
    """A disk on which values are told anew: by one row for lists, by one for the file."""
    seen, fixed = disk
    tables = (lists, lists, lists, file)
    after = tuple([table[value] for table, value in zip(tables, seen)])
    left = [value if value >= SEEN_AT else table[value] for table, value in zip(tables, fixed)]
    # a file that is not the one meant is as good as torn: nothing of it is on its way
    if left[FILE] == SEEN_AT + FILE and not is_loose(after[FILE]):
        left[FILE] = after[FILE]
    return after, tuple(left)
