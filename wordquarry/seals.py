"""Sealed rows: with their length and their check sum; rows of marks."""

from wordquarry.bytesrows import RowReader, Writer
from wordquarry.checksums import check_of
from wordquarry.errors import BadBytes, TornFile


def sealed(row):
    """The sealed row that has a row within it."""
    writer = Writer()
    writer.whole(len(row))
    writer.raw(row)
    writer.bits([check_of(row)], 32)
    return writer.all_bytes()


def row_within(row):
    """The row that a sealed row has within it, None for one that is torn."""
    reader = RowReader(row)
    try:
        within = reader.raw(reader.whole())
        told = reader.bits(1, 32)
    except BadBytes:
        return None
    if not reader.is_done or told != [check_of(within)]:
        return None
    return within


def is_whole(row):
    """Whether a row is sealed."""
    return row_within(row) is not None


def unsealed(name, row):
    """The row within a sealed row; name is that of its file."""
    within = row_within(row)
    if within is None:
        raise TornFile(name)
    return within


def marked_row(many, numbers):
    """A sealed row that tells which of so many numbers are marked."""
    marks = [0] * many
    for number in numbers:
        marks[number] = 1
    writer = Writer()
    writer.whole(many)
    writer.bits(marks, 1)
    return sealed(writer.all_bytes())


def marked_from(name, row):
    """How many numbers there are, and the marked ones, as such a row tells them."""
    reader = RowReader(unsealed(name, row))
    marks = None
    try:
        many = reader.whole()
        marks = reader.bits(many, 1)
    except BadBytes:
        many = 0
    if marks is None or not reader.is_done:
        raise TornFile(name)
    return many, tuple([number for number in range(many) if marks[number] == 1])
