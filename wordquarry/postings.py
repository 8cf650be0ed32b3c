"""Posting lists: where the tokens of a word stand, packed into blocks."""

from wordquarry.bytesrows import RowReader, Writer
from wordquarry.errors import BadBytes, BadLength, BadRows, NoBlock, NoPlace, TooMany
from wordquarry.layouts import Layout, plain_layout, told_numbers
from wordquarry.pairs import best_pairs
from wordquarry.signs import is_integer

MOST_ROWS = 5000
MOST_PLACES = 1000
NUMBER_END = 2 ** 24
PLACE_END = 2 ** 20
LONGEST = 2 ** 20
LAYOUT_BOUNDS = ((0, 1), (1, 16), (0, 4), (0, 24), (0, 64))


class Block:
    """Some neighbouring rows of a list, packed together; start is the index of the first one."""

    def __init__(self, rows, start, told, pairs):
        self.first = rows[0][0]
        self.last = rows[-1][0]
        self.many = len(rows)
        self.start = start
        self.weight, self.exceptions, self.width = told
        self.pairs = pairs


class PostingList:
    """Rows (number, places), each number with a length; it never changes."""

    def __init__(self, rows, lengths, layout=None):
        self.rows = checked_rows(rows)
        self.lengths = checked_lengths(self.rows, lengths)
        self.layout = plain_layout() if layout is None else layout
        self.numbers = tuple([row[0] for row in self.rows])
        self.steps = steps_of(self.numbers)
        self.blocks = blocks_of(self)
        self.weight = sum([block.weight for block in self.blocks])
        self.told = told_list(self)
        self._places = {number: places for number, places in self.rows}

    def __len__(self):
        return len(self.rows)

    def __contains__(self, number):
        return is_integer(number) and number in self._places

    def length_of(self, number):
        """The length of a number of the list."""
        if number not in self:
            raise NoPlace(number)
        return self.lengths[number]

    def places_of(self, number):
        """The places of a number of the list."""
        if number not in self:
            raise NoPlace(number)
        return self._places[number]

    def __eq__(self, other):
        return isinstance(other, PostingList) and self.told == other.told

    def block_of(self, number):
        """The index of the first block whose last number is not below a number, or None."""
        low = 0
        high = len(self.blocks)
        while low < high:
            middle = (low + high) // 2
            if self.blocks[middle].last < number:
                low = middle + 1
            else:
                high = middle
        return low if low < len(self.blocks) else None

    def block_rows(self, index):
        """The rows of a block."""
        if not is_integer(index) or not 0 <= index < len(self.blocks):
            raise NoBlock(index)
        begin = self.blocks[index].start
        return self.rows[begin:begin + self.blocks[index].many]


def checked_rows(rows):
    """The rows as tuples; the error of the first wrong one."""
    if not isinstance(rows, (list, tuple)):
        raise BadRows(0)
    if len(rows) > MOST_ROWS:
        raise TooMany("rows", len(rows), MOST_ROWS)
    told = []
    for index in range(len(rows)):
        last = told[-1][0] if index > 0 else -1
        if not is_row_behind(rows[index], last):
            raise BadRows(index)
        told.append((rows[index][0], tuple(rows[index][1])))
    return tuple(told)


def is_row_behind(row, last):
    """Whether a value is a row of a list, behind one with the number last."""
    if not isinstance(row, (list, tuple)) or len(row) != 2:
        return False
    number, places = row
    if not is_integer(number) or not last < number < NUMBER_END:
        return False
    return is_row_of_places(places)


def is_row_of_places(places):
    if not isinstance(places, (list, tuple)) or not 1 <= len(places) <= MOST_PLACES:
        return False
    last = -1
    for place in places:
        if not is_integer(place) or not last < place < PLACE_END:
            return False
        last = place
    return True


def checked_lengths(rows, lengths):
    """The lengths of the numbers of some rows; the error of the first wrong one."""
    told = {}
    for number, _ in rows:
        length = lengths.get(number)
        if not is_integer(length) or not 1 <= length <= LONGEST:
            raise BadLength(number)
        told[number] = length
    return told


def steps_of(numbers):
    """How many numbers are passed over ahead of each one."""
    steps = []
    last = -1
    for number in numbers:
        steps.append(number - last - 1)
        last = number
    return tuple(steps)


def blocks_of(book):
    """The blocks of a list, of which all but these is made."""
    blocks = []
    begin = 0
    for many in book.layout.cuts(book.steps):
        rows = book.rows[begin:begin + many]
        told = book.layout.block_weight(book.steps[begin:begin + many])
        pairs = best_pairs([(len(places), book.lengths[number]) for number, places in rows])
        blocks.append(Block(rows, begin, told, pairs))
        begin += many
    return tuple(blocks)


def told_list(book):
    """A list as a row of bytes."""
    writer = Writer()
    writer.raw([int(told) for told in told_numbers(book.layout)])
    writer.whole(len(book.rows))
    for step, row in zip(book.steps, book.rows):
        writer.whole(step)
        writer.whole(book.lengths[row[0]] - 1)
        writer.whole(len(row[1]) - 1)
        for gap in steps_of(row[1]):
            writer.whole(gap)
    return writer.all_bytes()


def postinglist_of(row):
    """The list that a row of bytes tells."""
    reader = RowReader(row)
    layout = read_told_layout(reader)
    rows = []
    lengths = {}
    last = -1
    for _ in range(bounded(reader, MOST_ROWS)):
        last = last + 1 + bounded(reader, NUMBER_END - 2 - last)
        lengths[last] = 1 + bounded(reader, LONGEST - 1)
        rows.append((last, read_places(reader)))
    if not reader.is_done:
        raise BadBytes(reader.at)
    return PostingList(rows, lengths, layout)


def bounded(reader, most):
    """The next number, which is at most so great."""
    at = reader.at
    number = reader.whole()
    if number > most:
        raise BadBytes(at)
    return number


def read_places(reader):
    places = []
    last = -1
    for _ in range(1 + bounded(reader, MOST_PLACES - 1)):
        last = last + 1 + bounded(reader, PLACE_END - 2 - last)
        places.append(last)
    return tuple(places)


def read_told_layout(reader):
    """The layout that stands at the beginning of a told list."""
    told = []
    for least, most in LAYOUT_BOUNDS:
        at = reader.at
        told.append(reader.byte())
        if not least <= told[-1] <= most:
            raise BadBytes(at)
    is_free, block, exceptions, wide, head = told
    # without its line there is neither a number of exceptions nor a width of them
    if (exceptions == 0) != (wide == 0):
        raise BadBytes(3)
    text = "blocks free to " if is_free == 1 else "blocks of "
    text = text + str(block)
    if exceptions > 0:
        text = text + "\nexceptions " + str(exceptions) + " of " + str(wide) + " bits"
    return Layout(text + "\nhead " + str(head) + " bits")
