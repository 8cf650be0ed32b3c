"""[6]: rows of bytes."""

import random
import unittest

from wordquarry.bytesrows import RowReader, Writer
from wordquarry.errors import BadBytes
from wordquarry.signs import all_signs


def written(*deeds):
    writer = Writer()
    for name, *told in deeds:
        getattr(writer, name)(*told)
    return writer.all_bytes()


def read(row, *deeds):
    reader = RowReader(row)
    return [getattr(reader, name)(*told) for name, *told in deeds], reader


class Rows(unittest.TestCase):

    def wrong(self, row, place, *deeds):
        reader = RowReader(row)
        with self.assertRaises(BadBytes) as held:
            for name, *told in deeds:
                getattr(reader, name)(*told)
        self.assertEqual(held.exception.place, place, row)

    def test_whole(self):
        self.assertEqual(written(("whole", 0)), (0,))
        self.assertEqual(written(("whole", 127)), (127,))
        self.assertEqual(written(("whole", 128)), (128, 1))
        self.assertEqual(written(("whole", 300)), (172, 2))
        for number in (0, 1, 127, 128, 16383, 16384, 2 ** 64, 10 ** 3999):
            row = written(("whole", number))
            told, reader = read(row, ("whole",))
            self.assertEqual((told, reader.at, reader.is_done), ([number], len(row), True))
            for cut in range(len(row)):
                self.wrong(row[:cut], cut, ("whole",))
        self.wrong((128, 0), 1, ("whole",))
        self.wrong((5, 129, 128, 0), 3, ("whole",), ("whole",))
        self.assertEqual(read((129, 128, 1), ("whole",))[0], [16385])

    def test_signs(self):
        self.assertEqual(written(("signs", "\n a~")), (4, 0, 1, all_signs().index("a"), 94))
        row = written(("signs", all_signs() * 2))
        self.assertEqual(read(row, ("signs",))[0], [all_signs() * 2])
        self.assertEqual(read((0,), ("signs",))[0], [""])
        self.wrong((2, 95, 1), 1, ("signs",))
        self.wrong((3, 1, 200), 2, ("signs",))
        self.wrong((3, 1, 2), 3, ("signs",))
        self.wrong((255, 255, 255, 255, 255, 127, 1), 7, ("signs",))

    def test_bits(self):
        self.assertEqual(written(("bits", [1, 2, 3, 0, 1], 2)), (1 + 8 + 48, 1))
        self.assertEqual(written(("bits", [5, 6], 8)), (5, 6))
        self.assertEqual(written(("bits", [0, 0], 0)), ())
        self.assertEqual(written(("bits", [], 9)), ())
        pick = random.Random(1)
        for width in range(65):
            for many in (0, 1, 2, 7, 8, 9):
                numbers = [pick.randrange(2 ** width) for _ in range(many)]
                row = written(("bits", numbers, width))
                self.assertEqual(len(row), (many * width + 7) // 8)
                whole = sum(number << (width * at) for at, number in enumerate(numbers))
                self.assertEqual(sum(byte << (8 * at) for at, byte in enumerate(row)), whole)
                told, reader = read(row, ("bits", many, width))
                self.assertEqual((told, reader.is_done), ([numbers], True))
                for cut in range(len(row)):
                    self.wrong(row[:cut], cut, ("bits", many, width))
                if many * width % 8:
                    self.wrong(row[:-1] + (row[-1] | 128,), len(row) - 1, ("bits", many, width))

    def test_raw_and_places(self):
        row = written(("raw", [1, 2]), ("whole", 200), ("signs", "ab"), ("bits", [3], 3))
        reader = RowReader(row)
        self.assertEqual((reader.at, reader.is_done), (0, False))
        self.assertEqual(reader.byte(), 1)
        self.assertEqual(reader.at, 1)
        self.assertEqual(reader.raw(1), (2,))
        self.assertEqual(reader.whole(), 200)
        self.assertEqual((reader.at, reader.signs()), (4, "ab"))
        self.assertEqual(reader.bits(1, 3), [3])
        self.assertEqual((reader.at, reader.is_done), (len(row), True))
        self.assertEqual(RowReader([]).is_done, True)
        self.wrong((1, 2), 2, ("raw", 3))
        self.wrong((), 0, ("byte",))
        self.assertEqual(read((), ("raw", 0))[0], [()])

    def test_changed_bytes(self):
        row = written(("whole", 300), ("signs", "abc"), ("bits", [1, 2, 3], 3))
        deeds = (("whole",), ("signs",), ("bits", 3, 3))
        for at in range(len(row)):
            for byte in range(256):
                changed = row[:at] + (byte,) + row[at + 1:]
                try:
                    told, reader = read(changed, *deeds)
                except BadBytes as error:
                    self.assertLessEqual(error.place, len(row))
                else:
                    again = written(*[deed[:1] + (value,) + deed[2:] for deed, value in zip(deeds, told)])
                    self.assertEqual(again, changed[:reader.at])

    def test_copies(self):
        row = [1, 2]
        reader = RowReader(row)
        row[0] = 9
        self.assertEqual(reader.byte(), 1)


if __name__ == "__main__":
    unittest.main()
