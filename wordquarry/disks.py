"""Disks whose power may go: what is on its way may be lost."""

from wordquarry.errors import BadCrash, Crashed, NoFile
from wordquarry.signs import is_integer


class Disk:
    """Names that lead to files; changes with its deeds. Files have numbers, in the order in which
    they were written."""

    def __init__(self):
        self.names = ()
        self._rows = []
        self._seen = {}
        self._synced = {}
        self._deeds = []
        self._loose = {}
        self._left = None
        self._part = None

    def row(self, name):
        """The bytes of a file."""
        return self._rows[self.file_of(name)]

    def file_of(self, name):
        """The number of a file."""
        if name not in self.names:
            raise NoFile(name)
        return self._seen[name]

    def write(self, name, row):
        """A file is written under a name."""
        if self._left == 0 and self._part is not None:
            part = self._part
            self._part = None
            self._write(name, tuple(row)[:part])
        self._spend()
        self._write(name, tuple(row))

    def _write(self, name, row):
        number = len(self._rows)
        self._rows.append(row)
        self._loose[number] = True
        self._do(("write", name), number)

    def rename(self, one, two):
        """A file gets another name."""
        self._spend()
        if one in self.names and one != two:
            self._do(("rename", one, two), None)

    def remove(self, name):
        """A file loses its name."""
        self._spend()
        if name in self.names:
            self._do(("remove", name), None)

    def sync(self, name):
        """The row of a file is on its way no more."""
        self._spend()
        if name in self.names:
            self._loose.pop(self._seen[name], None)

    def sync_names(self):
        """The deeds on names are on their way no more."""
        self._spend()
        self._deeds = []
        self._synced = dict(self._seen)

    def _spend(self):
        """Counts a deed, as long as there is power."""
        if self._left == 0:
            self._part = None
            raise Crashed()
        if self._left is not None:
            self._left -= 1

    def _do(self, deed, number):
        """A deed on names is seen, and on its way."""
        self._deeds.append((deed, number))
        done_on(self._seen, deed, number)
        self.names = tuple(sorted(self._seen))

    def waiting(self):
        """The deeds on names that are on their way, in their order."""
        return tuple([deed for deed, _ in self._deeds])

    def loose(self):
        """The pairs (number, length) of the files whose rows are on their way."""
        return tuple([(number, len(self._rows[number])) for number in sorted(self._loose)])

    def may_land(self, places):
        """Whether just the deeds at some places may have landed."""
        if not are_places(places, len(self._deeds)):
            return False
        missing = {}
        for place in range(len(self._deeds)):
            names = self._deeds[place][0][1:]
            if place not in places:
                for name in names:
                    missing[name] = True
            elif any([name in missing for name in names]):
                return False
        return True

    def cut(self, places, lengths):
        """The power is cut: the deeds at some places have landed, and of files so much is left."""
        if not self.may_land(places):
            raise BadCrash("deeds")
        if not self._may_be_left(lengths):
            raise BadCrash("files")
        for place in sorted(places):
            deed, number = self._deeds[place]
            done_on(self._synced, deed, number)
        for number in list(lengths):
            self._rows[number] = self._rows[number][:lengths[number]]
        self._deeds = []
        self._loose = {}
        self._seen = dict(self._synced)
        self.names = tuple(sorted(self._seen))
        self.stop()

    def _may_be_left(self, lengths):
        if not isinstance(lengths, dict):
            return False
        for number in lengths:
            if not is_integer(number) or number not in self._loose:
                return False
            length = lengths[number]
            if not is_integer(length) or not 0 <= length <= len(self._rows[number]):
                return False
        return True

    def stop(self):
        """The process stops: the next one has power."""
        self._left = None
        self._part = None

    def power(self, deeds, part=None):
        """From now on so many deeds are done, and perhaps a part of a write behind them."""
        self._left = deeds
        self._part = part

    def twin(self):
        """A disk that is alike in all, for itself."""
        disk = Disk()
        disk.take_all(self.names, [self._rows, self._seen, self._synced, self._deeds, self._loose],
                      (self._left, self._part))
        return disk

    def take_all(self, names, held, power):
        """Makes this disk like one that has all this; only for a disk that nobody has yet."""
        self.names = names
        self._rows = list(held[0])
        self._seen = dict(held[1])
        self._synced = dict(held[2])
        self._deeds = list(held[3])
        self._loose = dict(held[4])
        self._left, self._part = power


def are_places(value, many):
    """Whether a value is a list of unlike places below many."""
    if not isinstance(value, (list, tuple)):
        return False
    met = {}
    for place in value:
        if not is_integer(place) or not 0 <= place < many or place in met:
            return False
        met[place] = True
    return True


def done_on(names, deed, number):
    """Does a deed on a dict from names to numbers of files."""
    if deed[0] == "write":
        names[deed[1]] = number
    elif deed[0] == "rename":
        names[deed[2]] = names.pop(deed[1])
    else:
        names.pop(deed[1])
