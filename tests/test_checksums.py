"""[7]: check sums."""

import random
import unittest

from wordquarry.checksums import check_of, joined_check

UNDER = [1] + [0] * 24 + [1, 0, 0, 0, 1, 1, 0, 1]


def bit_by_bit(row):
    bits = [1]
    for byte in row:
        bits += [byte >> at & 1 for at in range(7, -1, -1)]
    bits += [0] * 32
    while 1 in bits and len(bits) - bits.index(1) > 32:
        first = bits.index(1)
        for at in range(33):
            bits[first + at] ^= UNDER[at]
    return int("".join(map(str, bits[-32:])), 2)


class Sums(unittest.TestCase):

    def test_bit_by_bit(self):
        self.assertEqual(check_of(()), 141)
        pick = random.Random(2)
        rows = [(), (0,), (255,), (1, 2, 3), (0,) * 9]
        rows += [tuple(pick.randrange(256) for _ in range(many)) for many in range(30)]
        for row in rows:
            self.assertEqual(check_of(row), bit_by_bit(row))
            self.assertEqual(check_of(list(row)), bit_by_bit(row))

    def test_joined(self):
        pick = random.Random(3)
        for many in range(20):
            for further in (0, 1, 2, 7, 40):
                one = tuple(pick.randrange(256) for _ in range(many))
                two = tuple(pick.randrange(256) for _ in range(further))
                self.assertEqual(joined_check(check_of(one), check_of(two), len(two)),
                                 check_of(one + two))

    def test_joined_far(self):
        row = (7,) * 3
        total = check_of(())
        for _ in range(1000):
            total = joined_check(total, check_of(row), 3)
        self.assertEqual(total, check_of(row * 1000))
        self.assertEqual(joined_check(5, 6, 2 ** 32 - 1), joined_check(5, 6, 2 ** 32 - 1))

    def test_near_bits_tell(self):
        pick = random.Random(4)
        row = [pick.randrange(256) for _ in range(12)]
        whole = int.from_bytes(row, "big")
        for _ in range(300):
            change = (pick.randrange(2 ** 31) * 2 + 1) << pick.randrange(96 - 32)
            changed = (whole ^ change).to_bytes(12, "big")
            self.assertNotEqual(check_of(tuple(changed)), check_of(row))


if __name__ == "__main__":
    unittest.main()
