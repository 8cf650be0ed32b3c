"""Rows of bytes: written piece by piece, and read back."""

from wordquarry.errors import BadBytes
from wordquarry.signs import SIGNS


class Writer:
    """Writes pieces one behind the other."""

    def __init__(self):
        self._row = []

    def all_bytes(self):
        return tuple(self._row)

    def whole(self, number):
        """A number of any size, in groups of seven bits, the lowest first."""
        while number > 127:
            self._row.append(128 + (number & 127))
            number >>= 7
        self._row.append(number)

    def signs(self, text):
        self.whole(len(text))
        for sign in text:
            self._row.append(SIGNS.index(sign))

    def bits(self, numbers, width):
        """Numbers with so many bits each, the lowest bit first."""
        held = 0
        many = 0
        for number in numbers:
            held |= number << many
            many += width
            while many >= 8:
                self._row.append(held & 255)
                held >>= 8
                many -= 8
        if many > 0:
            self._row.append(held)

    def raw(self, row):
        self._row.extend(list(row))


class RowReader:
    """Reads what was written, from the beginning of a row on."""

    def __init__(self, row):
        self._row = tuple(row)
        self.at = 0
        self.is_done = len(self._row) == 0

    def _go_to(self, place):
        self.at = place
        self.is_done = place == len(self._row)

    def _byte_at(self, place):
        if place >= len(self._row):
            raise BadBytes(len(self._row))
        return self._row[place]

    def byte(self):
        value = self._byte_at(self.at)
        self._go_to(self.at + 1)
        return value

    def _whole_from(self, place):
        """A number that begins at a place, and the place behind it."""
        number = 0
        shift = 0
        group = self._byte_at(place)
        while group > 127:
            number |= (group & 127) << shift
            shift += 7
            place += 1
            group = self._byte_at(place)
        if group == 0 and shift > 0:
            raise BadBytes(place)
        return number | (group << shift), place + 1

    def whole(self):
        number, place = self._whole_from(self.at)
        self._go_to(place)
        return number

    def signs(self):
        many, begin = self._whole_from(self.at)
        end = begin + many
        for place in range(begin, min(end, len(self._row))):
            if self._row[place] >= len(SIGNS):
                raise BadBytes(place)
        if end > len(self._row):
            raise BadBytes(len(self._row))
        self._go_to(end)
        return "".join([SIGNS[index] for index in self._row[begin:end]])

    def bits(self, many, width):
        end = self.at + (many * width + 7) // 8
        if end > len(self._row):
            raise BadBytes(len(self._row))
        numbers = self._numbers(many, width, end)
        self._go_to(end)
        return numbers

    def _numbers(self, many, width, end):
        if width == 0:
            return [0] * many
        numbers = []
        held = 0
        held_bits = 0
        for place in range(self.at, end):
            held |= self._row[place] << held_bits
            held_bits += 8
            while held_bits >= width and len(numbers) < many:
                numbers.append(held & ((1 << width) - 1))
                held >>= width
                held_bits -= width
        if held > 0:
            raise BadBytes(end - 1)
        return numbers

    def raw(self, many):
        end = self.at + many
        if end > len(self._row):
            raise BadBytes(len(self._row))
        row = self._row[self.at:end]
        self._go_to(end)
        return row
