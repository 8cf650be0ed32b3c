"""[36]: patterns met with maps."""

import random
import unittest

from tests.test_nearrules import drawn_text
from tests.test_patterns import tree
from tests.test_terms import great_map
from wordquarry.errors import BadNumber, BadWord
from wordquarry.meeting import Met, count_met, first_met, met, nearest
from wordquarry.nearrules import NearRule
from wordquarry.patterns import any_row, prefix
from wordquarry.patterntexts import pattern_of
from wordquarry.terms import TermMap


class Meetings(unittest.TestCase):

    def test_against_a_plain_look(self):
        pick = random.Random(61)
        for _ in range(80):
            words = {"".join(pick.choice("ab~c") for _ in range(pick.randint(1, 5))) for _ in range(pick.randint(0, 30))}
            pairs = [(word, pick.randint(0, 9)) for word in sorted(words)]
            book, pattern = TermMap(pairs), tree(pick, 2)
            machine = pattern.made_machine()
            told = [pair for pair in pairs if pattern.fits(pair[0])]
            begins = {word[:at] for word in words for at in range(len(word) + 1)} | {""}
            found = met(book, pattern)
            self.assertIsInstance(found, Met)
            self.assertEqual(found.pairs, tuple(told))
            self.assertEqual(found.looked, sum(machine.is_live(machine.reached(text)) for text in begins))
            self.assertEqual(count_met(book, pattern), len(told))
            for text in ["", "a", "ab", "b~", "zz"] + sorted(words)[:4]:
                further = [pair for pair in told if pair[0] >= text]
                self.assertEqual(first_met(book, pattern, text), further[0] if further else None)

    def test_nearest(self):
        pick = random.Random(62)
        for _ in range(60):
            words = {"".join(pick.choice("abc") for _ in range(pick.randint(1, 4))) for _ in range(25)}
            book = TermMap([(word, 0) for word in sorted(words)])
            rule, word = NearRule(drawn_text(pick)), "".join(pick.choice("abc") for _ in range(pick.randint(1, 4)))
            told = sorted((rule.price(word, one), one) for one in words if rule.price(word, one) is not None)
            for many in (1, 2, 7, 1000):
                self.assertEqual(nearest(book, word, rule, many), tuple((one, price) for price, one in told[:many]))

    def test_looked(self):
        book = TermMap([("bat", 1), ("car", 2), ("cart", 3), ("cast", 4), ("cat", 5), ("dog", 6)])
        found = met(book, pattern_of("'cart'|'cast'|'catt'"))
        self.assertEqual((found.pairs, found.looked), ((("cart", 3), ("cast", 4)), 8))
        self.assertEqual(met(TermMap([]), any_row()).looked, 1)
        self.assertEqual(met(book, pattern_of("'a'-any")).looked, 0)
        self.assertEqual((met(TermMap([]), any_row()).pairs, first_met(TermMap([]), any_row(), "")), ((), None))

    def test_great_maps(self):
        book = great_map()
        self.assertEqual(count_met(book, prefix("ab")), 2 ** 38)
        self.assertEqual(first_met(book, pattern_of("w'*b'"), "a" * 39 + "b"), ("a" * 39 + "b", 8))
        found = met(book, pattern_of("w'*c'"))
        self.assertEqual((found.pairs, found.looked), ((), 2 ** 41 - 1))
        rule = NearRule("change 1\nlimit 1")
        self.assertEqual(nearest(book, "a" * 40, rule, 2), (("a" * 40, 0), ("a" * 39 + "b", 1)))

    def test_wrong_values(self):
        book, rule = TermMap([("a", 1)]), NearRule("limit 0")
        for word in ("", "a b", "x" * 41, None, 3):
            with self.assertRaises(BadWord) as held:
                nearest(book, word, rule, 0)
            self.assertEqual(held.exception.what, word)
        for many in (0, -1, 1001, None, True, "1"):
            with self.assertRaises(BadNumber) as held:
                nearest(book, "a", rule, many)
            self.assertEqual((held.exception.what, held.exception.number), ("many", many))


if __name__ == "__main__":
    unittest.main()
