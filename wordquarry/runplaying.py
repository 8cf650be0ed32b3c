"""Runs of a protocol, played event by event on a disk."""

from wordquarry.disks import Disk
from wordquarry.errors import BadCrash
from wordquarry.indexlists import IndexList, list_from
from wordquarry.protocols import deeds_of, do_deed, first_whole, stray_names
from wordquarry.seals import sealed
from wordquarry.signs import is_integer

GROUPS = (("write", "new"), ("sync", "new"), ("remove", "dropped"), ("sync", "taken"),
          ("remove", "stray"))
# What may come: a commit; what ends a process that was left amid its work; recovery.
READY = 0
LEFT = 1
ENDED = 2


class ToldFiles:
    """What the list of a commit has: files leads from their names to the commits that write them."""

    def __init__(self, number, counter, files):
        self.counter = counter
        self.files = files
        self.told = IndexList(number, counter, sorted(files)).told


def file_row(number):
    """The row of each file that a commit with a number writes."""
    return sealed(divmod(number, 256))


class RunPlayer:
    """Plays a run; promise is the first one that it breaks. It counts what it plays: weight has
    commits, stops and cuts, new and dropped files, lines begun."""

    def __init__(self, protocol):
        self.disk = Disk()
        self.promise = None
        self.weight = [0, 0, 0, 0]
        self._protocol = protocol
        self._may_come = READY
        self._lists = {0: ToldFiles(0, 0, {})}
        self._last = 0
        self._unsure = None

    def play(self, event, place):
        """Plays an event; place tells where it stands in the run."""
        if not isinstance(event, tuple) or len(event) == 0 or not isinstance(event[0], str):
            raise BadCrash(place)
        if event[0] == "commit" and self._may_come == READY and self._is_commit(event):
            self._play_commit(event)
        elif event[0] == "recovery" and self._may_come == ENDED and self._is_recovery(event):
            self._play_recovery(event, place)
        elif event == ("stop",):
            self.disk.stop()
            self._end()
        elif event[0] == "cut" and is_cut(event):
            self._play_cut(event)
        else:
            raise BadCrash(place)

    def _end(self):
        self.weight[1] += 1
        self._may_come = ENDED

    def _play_cut(self, event):
        lengths = dict_of(event[2])
        if not self.disk.may_land(event[1]):
            raise BadCrash("deeds")
        if lengths is None:
            raise BadCrash("files")
        self.disk.cut(event[1], lengths)
        self._end()

    def _is_commit(self, event):
        """Whether a commit may be played so."""
        if len(event) != 6 or not is_number(event[1]) or not is_number(event[2]):
            return False
        if event[2] > len(self._lists[self._last].files):
            return False
        lines = self._protocol.commit_lines
        if not is_extent(event[3:], lines):
            return False
        if event[3] is None or event[3] == len(lines):
            return True
        return self._is_amid_commit(event, lines[event[3]])

    def _is_amid_commit(self, event, words):
        """Whether a line of a commit may be played so far."""
        _, new, dropped, _, files, part = event
        if words in GROUPS and files > (dropped if words[0] == "remove" else new):
            return False
        if part is None:
            return True
        number = self.weight[0] + 1
        if words == ("write", "new"):
            return files < new and part <= len(file_row(number))
        return part <= len(self._list_of(number, new, dropped).told)

    def _is_recovery(self, event):
        return len(event) == 4 and is_extent(event[1:], self._protocol.recovery_lines)

    def _list_of(self, number, new, dropped):
        """The list of a commit with a number."""
        last = self._lists[self._last]
        files = {name: last.files[name] for name in sorted(last.files)[dropped:]}
        for at in range(last.counter, last.counter + new):
            files["f" + str(at)] = number
        return ToldFiles(number, last.counter + new, files)

    def _play_commit(self, event):
        _, new, dropped, until, files, part = event
        number = self.weight[0] + 1
        self.weight[0] = number
        self.weight[2] += new + dropped
        held = self._list_of(number, new, dropped)
        rows = {name: file_row(number) for name in held.files if held.files[name] == number}
        groups = {"dropped": sorted(self._lists[self._last].files)[:dropped]}
        self._lists[number] = held
        self._unsure = number
        lines = self._protocol.commit_lines
        for at in range(len(lines) if until is None else until):
            self.weight[3] += 1
            self._play_deeds(deeds_of(lines[at], groups, rows, held.told), lines[at])
            if lines[at] == ("tell",):
                self._tell(number)
            if self.promise is not None:
                return
        self._may_come = LEFT
        if until is None:
            self._check_clean()
            self._may_come = READY
        elif until < len(lines):
            words = lines[until]
            self._play_part(deeds_of(words, groups, rows, held.told), words, files, part)

    def _play_deeds(self, deeds, words):
        """Plays deeds of a line, up to one that would break a promise."""
        for deed in deeds:
            if words == ("write", "new") and deed[1] in self.disk.names:
                self.promise = "fresh"
                return
            do_deed(self.disk, deed)

    def _play_part(self, deeds, words, files, part):
        """Plays the first deeds of a line, and perhaps a part of a write behind them."""
        if files > 0 or part is not None:
            self.weight[3] += 1
        told = deeds[:files]
        if part is not None:
            told = told + [("write", deeds[files][1], deeds[files][2][:part])]
        self._play_deeds(told, words)

    def _tell(self, number):
        """A list is told: its files have to be there."""
        self._last = number
        self._unsure = None
        files = self._lists[number].files
        for name in files:
            if name not in self.disk.names or self.disk.row(name) != file_row(files[name]):
                self.promise = "whole"

    def _check_clean(self):
        if len(stray_names(self.disk, list(self._lists[self._last].files))) > 0:
            self.promise = "clean"

    def _take(self, words):
        """The number of the commit whose list is taken."""
        row = first_whole(self.disk, words[1:])
        if row is None and self._last > 0:
            self.promise = "found"
        taken = 0 if row is None else list_from(words[1], row).commit
        if self.promise is None and taken not in (self._last, self._unsure):
            self.promise = "kept"
        return taken

    def _play_recovery(self, event, place):
        _, until, files, part = event
        lines = self._protocol.recovery_lines
        self._may_come = LEFT
        if until == 0:
            return
        self.weight[3] += 1
        taken = self._take(lines[0])
        if self.promise is not None:
            return
        for at in range(1, len(lines) if until is None else until):
            self.weight[3] += 1
            self._play_deeds(self._recovery_deeds(lines[at], taken), lines[at])
        if until is None:
            self._tell(taken)
            self._may_come = READY
        elif until < len(lines):
            deeds = self._recovery_deeds(lines[until], taken)
            if files > len(deeds) or part is not None and part > len(deeds[0][2]):
                raise BadCrash(place)
            self._play_part(deeds, lines[until], files, part)

    def _recovery_deeds(self, words, taken):
        held = self._lists[taken]
        groups = {"taken": sorted(held.files), "stray": stray_names(self.disk, list(held.files))}
        return deeds_of(words, groups, {}, held.told)


def is_number(value):
    return is_integer(value) and value >= 0


def is_extent(told, lines):
    """Whether lines, files and part tell how far lines may be played, as far as the lines alone
    say it."""
    until, files, part = told
    if not is_number(files) or part is not None and not is_number(part):
        return False
    if until is None:
        return files == 0 and part is None
    if not is_number(until) or until > len(lines):
        return False
    if until == len(lines):
        return files == 0 and part is None
    words = lines[until]
    return (files == 0 or words in GROUPS) and (part is None or words[0] == "write")


def is_cut(event):
    """Whether an event tells places and pairs, of any values."""
    if len(event) != 3 or not isinstance(event[1], tuple) or not isinstance(event[2], tuple):
        return False
    return all([isinstance(pair, tuple) and len(pair) == 2 for pair in event[2]])


def dict_of(pairs):
    """The dict of some pairs, None if a first value is no integer, or is that of two pairs."""
    told = {}
    for number, length in pairs:
        if not is_integer(number) or number in told:
            return None
        told[number] = length
    return told
