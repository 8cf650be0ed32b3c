"""Protocols: in which order the files of an index are written, and how it recovers."""

from wordquarry.indexlists import IndexList
from wordquarry.protocoltexts import LISTS, read_protocol
from wordquarry.seals import is_whole

PLAIN_COMMIT = """write new
sync new
write next
sync next
sync names
rename next list
sync names
tell
remove dropped"""
PLAIN_RECOVERY = """take list
sync names
remove stray"""


class CommitProtocol:
    """A text for commits and one for recovery; it never changes."""

    def __init__(self, commit, recovery):
        self.commit_lines, self.recovery_lines = read_protocol(commit, recovery)
        self.commit = commit
        self.recovery = recovery

    def __eq__(self, other):
        if not isinstance(other, CommitProtocol):
            return False
        return self.commit == other.commit and self.recovery == other.recovery

    def commit_on(self, disk, new, kept, dropped, row):
        """Plays a commit on a disk: new leads from names to rows; row is this commit's list."""
        groups = {"dropped": sorted(dropped)}
        for words in self.commit_lines:
            for deed in deeds_of(words, groups, new, row):
                do_deed(disk, deed)
        return True

    def recover_on(self, disk, files_of):
        """Plays recovery on a disk, and tells the row of the list that it took, or None."""
        row = first_whole(disk, self.recovery_lines[0][1:])
        names = () if row is None else files_of(row)
        told = IndexList(0, 0, ()).told if row is None else row
        for words in self.recovery_lines[1:]:
            groups = {"taken": sorted(names), "stray": stray_names(disk, names)}
            for deed in deeds_of(words, groups, {}, told):
                do_deed(disk, deed)
        return row


def first_whole(disk, names):
    """The row of the first list that is there and whole, None if none is."""
    for name in names:
        if name in disk.names and is_whole(disk.row(name)):
            return disk.row(name)
    return None


def stray_names(disk, names):
    """The files on a disk, ascending, that are no lists and are not named by the taken list."""
    named = {name: True for name in list(LISTS) + list(names)}
    return [name for name in disk.names if name not in named]


def deeds_of(words, groups, new, row):
    """The deeds of a line, each a tuple: groups leads from words to the names of files, new from
    the names of new files to their rows; row is that of the list."""
    if words[0] in ("tell", "take"):
        return []
    if words[0] == "rename":
        return [words]
    if words == ("sync", "names"):
        return [("sync names",)]
    if words == ("write", "new"):
        return [("write", name, new[name]) for name in sorted(new)]
    if words[0] == "write":
        return [("write", words[1], row)]
    if words == ("sync", "new"):
        return [("sync", name) for name in sorted(new)]
    return [(words[0], name) for name in groups.get(words[1], [words[1]])]


def do_deed(disk, deed):
    """Does a deed on a disk."""
    if deed[0] == "write":
        disk.write(deed[1], deed[2])
    elif deed[0] == "rename":
        disk.rename(deed[1], deed[2])
    elif deed[0] == "remove":
        disk.remove(deed[1])
    elif deed[0] == "sync":
        disk.sync(deed[1])
    else:
        disk.sync_names()


def plain_protocol():
    """A protocol that keeps all promises."""
    return CommitProtocol(PLAIN_COMMIT, PLAIN_RECOVERY)
