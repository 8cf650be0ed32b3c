"""All runs of a protocol over one file, as a graph.

A node is a tuple (where, line, mark, counts, disk). counts is (told, file, next): told is 0 as long
as the empty list is told, file what the list told last has of the file (it was not named by then,
the list has it, it was dropped), next what the list of a commit has of it that was begun, but not
told: NONE if there is none. mark tells of a commit (new, dropped, told) and of a recovery which
list it took. The ways from a node are triples (node, weight, label); a promise stands in the place
of a node where it is broken."""

from wordquarry.rundisks import (ABSENT, EMPTY_DISK, FILE, FILE_DROPPED, FILE_KEPT, FILE_TOLD,
                                 LISTS_KEPT, LISTS_TOLD, NEXT, SAME, TOLD, TORN, left_by_cut,
                                 put_under, relabelled, renamed, synced)
from wordquarry.protocoltexts import LISTS

READY = 0
ENDED = 1
COMMIT = 2
RECOVERY = 3
LEFT = 4
UNNAMED = 0
HELD = 1
DROPPED = 2
NONE = -1
NO_MARK = ()
FIRST_NODE = (0, 0, (), (0, 0, -1), ((0, 0, 0, 0), (15, 15, 15, 15)))
# Weights are told as one number: commits, stops and cuts, new and dropped files, lines begun.
LINE = 1
ONE_FILE = 1 << 40
ONE_END = 1 << 80
ONE_COMMIT = 1 << 120


class RunGraph:
    """The graph of a protocol. Without the file it has the runs without files; without lists it has
    more runs than there are: recovery takes any list that it may take."""

    def __init__(self, protocol, has_lists, has_file):
        self._commit_lines = protocol.commit_lines
        self._recovery_lines = protocol.recovery_lines
        self._has_lists = has_lists
        self._has_file = has_file

    def ways_from(self, node):
        where, line = node[:2]
        if where == READY:
            return self._commits(node) + ends_from(node)
        if where == ENDED:
            return [((RECOVERY, 0, NO_MARK, node[3], node[4]), 0, ("recovery",))]
        if where == LEFT:
            return ends_from(node)
        if where == COMMIT:
            if line == len(self._commit_lines):
                return [commit_end(node)] + ends_from(node)
            return self._commit_line(node, self._commit_lines[line]) + ends_from(node)
        if line == 0:
            return self._take(node)
        if line == len(self._recovery_lines):
            return [recovery_end(node)] + ends_from(node)
        return self._recovery_line(node, self._recovery_lines[line]) + ends_from(node)

    def _commits(self, node):
        """The ways that begin a commit."""
        told, file, _ = node[3]
        ways = []
        for new in (0, 1) if file == UNNAMED and self._has_file else (0,):
            for dropped in (0, 1) if file == HELD else (0,):
                after = HELD if new == 1 else DROPPED if dropped == 1 else file
                begun = (COMMIT, 0, (new, dropped, False), (told, file, after), node[4])
                weight = ONE_COMMIT + ONE_FILE * (new + dropped)
                ways.append((begun, weight, ("commit", new, dropped)))
        return ways

    def _commit_line(self, node, words):
        new, dropped, is_told = node[2]
        disk = node[4]
        if words == ("tell",):
            return [told_line(node)]
        if words[1] == "new" and new == 0 or words[1] == "dropped" and dropped == 0:
            return behind_line(node, [(disk, None)])
        if words == ("write", "new") and disk[0][FILE] != ABSENT:
            return [("fresh", LINE, ("line", None))]
        return self._deed(node, words, TOLD if is_told else NEXT)

    def _recovery_line(self, node, words):
        is_held = has_taken_file(node)
        if words[1] == "taken" and not is_held or words[1] == "stray" and is_held:
            return behind_line(node, [(node[4], None)])
        return self._deed(node, words, TOLD if node[2] == 0 else NEXT)

    def _deed(self, node, words, written):
        """The ways of a line that does one deed."""
        disk = node[4]
        if words == ("sync", "names"):
            return behind_line(node, [((disk[0], EMPTY_DISK[1]), "synced")])
        at = LISTS.index(words[1]) if words[1] in LISTS else FILE
        if at != FILE and not self._has_lists:
            return behind_line(node, [(disk, None)])
        if words[0] == "write":
            parts = [((LEFT, 0, NO_MARK, node[3], after), LINE, ("part", lands))
                     for after, lands in put_under(disk, at, TORN)]
            return behind_line(node, put_under(disk, at, written)) + parts
        if words[0] == "sync":
            return behind_line(node, [(synced(disk, at), None)])
        if disk[0][at] == ABSENT:
            return behind_line(node, [(disk, None)])
        if words[0] == "rename":
            return behind_line(node, renamed(disk, at, LISTS.index(words[2])))
        return behind_line(node, put_under(disk, at, ABSENT))

    def _take(self, node):
        """The ways of the first line of recovery; mark is 0 for the list told last, 1 for that of
        the commit that was not told."""
        _, _, _, counts, disk = node
        if not self._has_lists:
            lots = [0] if counts[2] == NONE else [0, 1]
        else:
            taken = first_taken(disk[0], self._recovery_lines[0][1:])
            if taken is None and counts[0] == 1:
                return [("found", LINE, ("line", None))]
            if taken == 2:
                return [("kept", LINE, ("line", None))]
            lots = [0 if taken is None else taken]
        return [((RECOVERY, 1, mark, counts, disk), LINE, ("line", None)) for mark in lots]


def first_taken(seen, names):
    """Which list is taken: 0 for the one told last, 1 for the next one, 2 for an older one; None if
    none is whole."""
    for name in names:
        value = seen[LISTS.index(name)]
        if value >= TOLD:
            return (value - TOLD) // 2
    return None


def ends_from(node):
    """The ways in which a process ends there."""
    _, _, _, counts, disk = node
    ways = [((ENDED, 0, NO_MARK, counts, disk), ONE_END, ("stop",))]
    for after, torn in left_by_cut(disk):
        ways.append(((ENDED, 0, NO_MARK, counts, after), ONE_END, ("cut", torn)))
    return ways


def behind_line(node, disks):
    """The ways to the places behind a line: disks has pairs (disk, whether the deed will land)."""
    where, line, mark, counts, _ = node
    return [((where, line + 1, mark, counts, after), LINE, ("line", lands))
            for after, lands in disks]


def counts_told(node):
    """The counts and the disk, once the next list is told."""
    _, _, _, (_, file, after), disk = node
    table = SAME
    if file == UNNAMED and after == HELD:
        table = FILE_TOLD
    elif after == DROPPED:
        table = FILE_DROPPED
    return (1, after, NONE), relabelled(disk, LISTS_TOLD, table)


def told_line(node):
    """The way of the line that tells a commit."""
    _, line, (new, dropped, _), _, _ = node
    counts, disk = counts_told(node)
    if counts[1] == HELD and disk[0][FILE] not in (TOLD, TOLD + 1):
        return ("whole", LINE, ("line", None))
    return ((COMMIT, line + 1, (new, dropped, True), counts, disk), LINE, ("line", None))


def commit_end(node):
    """The way of the end of a commit."""
    _, _, _, counts, disk = node
    if disk[0][FILE] != ABSENT and counts[1] != HELD:
        return ("clean", 0, ("end",))
    return ((READY, 0, NO_MARK, counts, disk), 0, ("end",))


def has_taken_file(node):
    """Whether the list that recovery took has the file."""
    return node[3][1 if node[2] == 0 else 2] == HELD


def recovery_end(node):
    """The way of the end of a recovery."""
    _, _, mark, counts, disk = node
    if mark == 1:
        counts, disk = counts_told(node)
    else:
        counts = (counts[0], counts[1], NONE)
        disk = relabelled(disk, LISTS_KEPT, FILE_KEPT)
    if counts[1] == HELD and disk[0][FILE] not in (TOLD, TOLD + 1):
        return ("whole", 0, ("end",))
    return ((READY, 0, NO_MARK, counts, disk), 0, ("end",))
