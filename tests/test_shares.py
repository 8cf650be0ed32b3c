"""[5]: shares."""

import itertools
import unittest
from fractions import Fraction

from wordquarry.errors import BadNumber, BadText
from wordquarry.shares import Share, share_of

TOPS = (-123456789012345678, -6, -4, -1, 0, 1, 2, 3, 9, 987654321098765432)
BOTTOMS = (-8, -3, 1, 2, 6, 123456789012345679)


def fraction(value):
    return Fraction(value.top, value.bottom) if isinstance(value, Share) else Fraction(value)


class Shares(unittest.TestCase):

    def test_least_form(self):
        for top, bottom in itertools.product(TOPS, BOTTOMS):
            one, plain = Share(top, bottom), Fraction(top, bottom)
            self.assertEqual((one.top, one.bottom), (plain.numerator, plain.denominator))
        self.assertEqual((Share(5).top, Share(5).bottom), (5, 1))
        for top in (0, 1, -2):
            with self.assertRaises(BadNumber) as held:
                Share(top, 0)
            self.assertEqual((held.exception.what, held.exception.number), ("bottom", 0))

    def test_sums_and_order(self):
        shares = [Share(top, bottom) for top, bottom in itertools.product(TOPS, BOTTOMS)]
        for one, two in itertools.product(shares[::3], shares[::2] + [0, 1, -7, 10 ** 18]):
            left, right = fraction(one), fraction(two)
            self.assertEqual(fraction(one + two), left + right)
            self.assertEqual(fraction(one - two), left - right)
            self.assertEqual(fraction(one * two), left * right)
            if right != 0:
                self.assertEqual(fraction(one.over(two)), left / right)
            order = one.compared(two)
            self.assertIsInstance(order, int)
            self.assertEqual((order < 0, order == 0), (left < right, left == right))
            self.assertIs(one.under(two), left < right)
            self.assertIs(one.at_most(two), left <= right)
            self.assertIs(one == two, left == right)
            self.assertIs(one != two, left != right)
            self.assertIsInstance(one + two, Share)

    def test_equal(self):
        self.assertTrue(Share(2, 2) == 1 and 1 == Share(1))
        self.assertFalse(Share(1) == True or Share(0) == False or True == Share(1))
        for value in (None, "1", 1.0, (1, 1), Fraction(1)):
            self.assertFalse(Share(1) == value)

    def test_written(self):
        for text in ("3/4", "-2", "0", "-1/3", "123456789012345678/5"):
            self.assertEqual(share_of(text).written(), text)
        self.assertEqual(Share(6, -4).written(), "-3/2")
        self.assertEqual(share_of("-2/4"), Share(-1, 2))
        self.assertEqual(share_of("0/7"), 0)
        many = Share(10 ** 3999, 7) * Share(10 ** 3998, 3)
        self.assertEqual(many.written(), "1" + "0" * 7997 + "/21")
        self.assertEqual(share_of(many.written()), many)

    def test_wrong_forms(self):
        for text, column in (("-0", 2), ("03", 2), ("1/0", 3), ("1/", 3), ("-", 2), ("", 1),
                             ("1x2", 2), ("12/3/4", 5), ("1/03", 3), ("-0/5", 2), ("--1", 2),
                             (" 1", 1), ("1 ", 2), ("+1", 1), ("1/-2", 3), ("1/2 ", 4), ("a", 1),
                             ("00", 2), ("-00", 2), ("/2", 1), ("1\n", 2), ("0/", 3), ("01/2", 2)):
            with self.assertRaises(BadText) as held:
                share_of(text)
            self.assertEqual((held.exception.line, held.exception.column), (1, column), text)


if __name__ == "__main__":
    unittest.main()
