"""Cursors: they go through a posting list and know which of its blocks were read."""

from wordquarry.errors import BadNumber
from wordquarry.signs import is_integer


def check_target(to):
    """The error of a value that is no number to which one may go on."""
    if not is_integer(to) or to < 0:
        raise BadNumber("to", to)


class Cursor:
    """Stands at a row of a posting list, or behind its end; changes with its deeds."""

    def __init__(self, source):
        self._source = source
        self._block = -1
        self._row = 0
        self.looked = ()
        self._stand_at(0)

    def _stand_at(self, index):
        """Comes to stand at the row with an index, which is not behind the next block."""
        book = self._source
        self._row = index
        if index == len(book.rows):
            self.number = None
            self.places = None
            self.long = None
            return
        self.number, self.places = book.rows[index]
        self.long = book.lengths[self.number]
        block = self._block
        if block < 0 or index >= book.blocks[block].start + book.blocks[block].many:
            block = book.block_of(self.number)
            self._block = block
            self.looked = self.looked + (block,)

    def go_on(self):
        """To the next row."""
        if self.number is not None:
            self._stand_at(self._row + 1)

    def advance(self, to):
        """To the first row from here on whose number is not below a number."""
        check_target(to)
        if self.number is None or self.number >= to:
            return
        numbers = self._source.numbers
        low = self._row + 1
        high = len(numbers)
        while low < high:
            middle = (low + high) // 2
            if numbers[middle] < to:
                low = middle + 1
            else:
                high = middle
        self._stand_at(low)
