"""Lists of what a commit has."""

from wordquarry.bytesrows import RowReader, Writer
from wordquarry.errors import BadBytes, TornFile
from wordquarry.figures import told_number
from wordquarry.seals import row_within, sealed
from wordquarry.signs import is_word

ENDS = ("lengths", "papers", "postings", "words")


class IndexList:
    """The number of a commit, a counter, names of files, and rows (segment, turn of its marks)."""

    def __init__(self, commit, counter, files, rows=()):
        self.commit = commit
        self.counter = counter
        self.files = tuple(sorted(files))
        self.rows = tuple([(segment, turn) for segment, turn in rows])
        self.told = told_index(self)


def told_index(index):
    """A list as a sealed row."""
    writer = Writer()
    writer.whole(index.commit)
    writer.whole(index.counter)
    writer.whole(len(index.files))
    for file in index.files:
        writer.signs(file)
    writer.whole(len(index.rows))
    for segment, turn in index.rows:
        writer.whole(segment)
        writer.whole(turn)
    return sealed(writer.all_bytes())


def list_from(file, row):
    """The list that a row tells; file is the name of its file."""
    found = None
    within = row_within(row)
    if within is not None:
        try:
            found = read_list(RowReader(within))
        except BadBytes:
            found = None
    if found is None:
        raise TornFile(file)
    return found


def read_list(reader):
    """The list that is told in a row, None if names or their order are wrong."""
    commit = reader.whole()
    counter = reader.whole()
    files = [reader.signs() for _ in range(reader.whole())]
    rows = [(reader.whole(), reader.whole()) for _ in range(reader.whole())]
    if not reader.is_done or files != sorted(files):
        return None
    if not all([is_word(name) for name in files]):
        return None
    return IndexList(commit, counter, files, rows)


def segment_files(segment):
    """The names of the files of a segment."""
    return tuple(["s" + told_number(segment) + "." + end for end in ENDS])


def marks_file(segment, turn):
    """The name of a file of marks of a segment."""
    return "d" + told_number(segment) + "." + told_number(turn)


def all_files(rows):
    """The names of all files of some rows (segment, turn)."""
    names = []
    for segment, turn in rows:
        names.extend(list(segment_files(segment)))
        if turn > 0:
            names.append(marks_file(segment, turn))
    return tuple(sorted(names))
