"""[28] to [31]: near rules, and what they say of all pairs."""

import functools
import itertools
import random
import unittest

from wordquarry.errors import BadText, TooMany
from wordquarry.nearpairs import beyond_pair, one_way_pair, unlike_pair
from wordquarry.nearrules import NearRule

ALL = "put 1\ndrop 1\nchange 1\nswap 1\n"
ROWS = ["".join(row) for many in range(4) for row in itertools.product("abcd", repeat=many)]


def drawn_text(pick, limit=4, keeps=True):
    lines = ["{} {}".format(head, pick.choice((1, 1, 2, 3))) for head in ("put", "drop", "change", "swap")
             if pick.random() < 0.6]
    pairs = [(one, two) for one in "abc" for two in "abc" if one != two]
    lines += ["change {} {} {}".format(one, two, pick.randint(0, 3))
              for one, two in sorted(pick.sample(pairs, pick.randint(0, 2)))]
    if keeps and pick.random() < 0.4:
        lines.append("keep {}".format(pick.randint(1, 3)))
    return "\n".join(lines + ["limit {}".format(pick.randint(0, limit))])


def told_prices(text):
    prices, own, keep, limit = {}, {}, 0, 0
    for line in text.split("\n"):
        parts = line.split(" ")
        if parts[0] == "keep":
            keep = int(parts[1])
        elif parts[0] == "limit":
            limit = int(parts[1])
        elif len(parts) == 4:
            own[parts[1], parts[2]] = int(parts[3])
        else:
            prices[parts[0]] = int(parts[1])
    return prices, own, keep, limit


def plain_price(text, word, other):
    """The least price of all ways."""
    prices, own, keep, limit = told_prices(text)
    kept = min(keep, len(word))
    if other[:kept] != word[:kept]:
        return None
    word, other, far = word[kept:], other[kept:], 99

    @functools.lru_cache(None)
    def least(at, place):
        if (at, place) == (len(word), len(other)):
            return 0
        ways = [far]
        if place < len(other):
            ways.append(prices.get("put", far) + least(at, place + 1))
        if at < len(word):
            ways.append(prices.get("drop", far) + least(at + 1, place))
        if at < len(word) and place < len(other):
            change = 0 if word[at] == other[place] else own.get((word[at], other[place]), prices.get("change", far))
            ways.append(change + least(at + 1, place + 1))
        if at + 1 < len(word) and word[at] != word[at + 1] and other[place:place + 2] == word[at + 1] + word[at]:
            ways.append(prices.get("swap", far) + least(at + 2, place + 2))
        return min(ways)

    price = least(0, 0)
    return price if price <= limit else None


class Texts(unittest.TestCase):

    def test_right_ones(self):
        for text in ("limit 0", "limit 4", ALL + "limit 2", ALL + "keep 40\nlimit 1", "swap 9\nlimit 1",
                     "change 3\nlimit 1", "change 3 b 0\nlimit 1", "change 1\nchange ! ~ 0\nchange ~ } 9\nlimit 3",
                     "change a b 0\nchange a c 0\nchange b a 0\nkeep 1\nlimit 0", "change { ! 1\nlimit 0"):
            self.assertEqual(NearRule(text).text, text)
        self.assertTrue(NearRule("limit 1") == NearRule("limit 1"))
        self.assertFalse(NearRule("limit 1") == NearRule("limit 2") or NearRule("limit 1") == "limit 1")

    def test_wrong_ones(self):
        for text, line, column in (
                ("", 1, 1), ("put 1", 1, 6), ("put 0\nlimit 1", 1, 5), ("limit 5", 1, 7), ("limit 2\n", 1, 8),
                ("limit 22", 1, 8), ("change 3", 1, 9), ("change 0\n", 1, 9), ("put 1\nput 1", 2, 1),
                ("drop 1\nput 1", 2, 1), ("drop 1\nchange 1\ndrop", 3, 1), ("change a a 1", 1, 10),
                ("change b a 1\nchange a b 1", 2, 8), ("change a b 1\nchange a b 1", 2, 10),
                ("change a ~ 1\nchange a", 2, 8), ("change ~ } 1\nc", 2, 1), ("change ~ | 1\nchange ~ ~", 2, 10),
                ("keep 41", 1, 7), ("keep 0", 1, 6), ("keep x", 1, 6), ("keep 05", 1, 6), ("keep 1\nkeep", 2, 1),
                ("keep 1\nchange", 2, 1), ("swap 1\nchange 1\n", 2, 9), ("limit 1 ", 1, 8), ("\nlimit 1", 1, 1),
                ("put  1", 1, 5), ("put 1 \n", 1, 6), ("limit", 1, 6), ("put 1\n", 2, 1), ("put 10", 1, 6),
                ("change a\n", 1, 9), ("change a b 10", 1, 13), ("change a b  ", 1, 12), ("change % b 1", 1, 8),
                ("change a\tb", 1, 9), ("change a % 1", 1, 10), ("Put 1", 1, 1), ("put 1\n\nlimit 1", 2, 1),
                ("limit 1\nput 1", 1, 8), ("change a b 1\nput 1", 2, 1), ("change a b 1\nswap 1", 2, 1)):
            with self.assertRaises(BadText) as held:
                NearRule(text)
            self.assertEqual((held.exception.line, held.exception.column), (line, column), text)
        for value in (None, 3, b"limit 1", ["limit 1"], True):
            with self.assertRaises(BadText) as held:
                NearRule(value)
            self.assertEqual((held.exception.line, held.exception.column), (1, 1))


class Prices(unittest.TestCase):

    def test_against_all_ways(self):
        pick = random.Random(41)
        for _ in range(80):
            text = drawn_text(pick)
            rule, turned = NearRule(text), NearRule(text).turned()
            for _ in range(60):
                word, other = ("".join(pick.choice("abcd") for _ in range(pick.randint(0, 6))) for _ in range(2))
                self.assertEqual(rule.price(word, other), plain_price(text, word, other), (text, word, other))
                if "keep" not in text:
                    self.assertEqual(turned.price(other, word), rule.price(word, other))

    def test_told(self):
        rule = NearRule(ALL + "limit 2")
        self.assertEqual(rule.price("abcd", "bacd"), 1)
        self.assertIsNone(rule.price("ab", "bca"))
        self.assertEqual(rule.price("", "ab"), 2)
        self.assertIsNone(rule.price("", "abc"))
        self.assertEqual(rule.price("", ""), 0)
        self.assertEqual(rule.price("x" * 3000, "x" * 3001), 1)
        self.assertEqual(NearRule("change a b 0\nlimit 0").price("aab", "bab"), 0)
        self.assertIsNone(NearRule("change a b 0\nlimit 4").price("b", "a"))
        self.assertEqual(NearRule("change 3\nchange a b 1\nlimit 4").price("ac", "bd"), 4)
        self.assertIsNone(NearRule("swap 1\nlimit 4").price("aa", "ab"))
        self.assertEqual(NearRule("put 1\nkeep 2\nlimit 1").price("ab", "abc"), 1)
        self.assertEqual(NearRule("put 1\nkeep 3\nlimit 1").price("ab", "abc"), 1)
        self.assertIsNone(NearRule("put 1\nkeep 2\nlimit 1").price("ab", "acb"))
        self.assertIsNone(NearRule("drop 1\nkeep 2\nlimit 1").price("ab", "a"))

    def test_turned(self):
        rule = NearRule("put 1\ndrop 2\nchange 3\nswap 4\nchange a c 0\nchange b a 1\nkeep 2\nlimit 4")
        self.assertEqual(rule.turned().text,
                         "put 2\ndrop 1\nchange 3\nswap 4\nchange a b 1\nchange c a 0\nlimit 4")
        self.assertEqual(NearRule("put 3\nlimit 0").turned().text, "drop 3\nlimit 0")


def shortest(test, most):
    for many in range(most + 1):
        for word, other in itertools.product(ROWS, repeat=2):
            if max(len(word), len(other)) == many and test(word, other):
                return many
    return None


class Pairs(unittest.TestCase):

    def check(self, found, test):
        least = shortest(test, 2)
        if found is None:
            self.assertIsNone(least)
            return
        self.assertTrue(test(*found), found)
        many = max(map(len, found))
        self.assertTrue(least == many if least is not None else many > 2, found)

    def test_against_short_rows(self):
        pick = random.Random(42)
        for turn in range(40):
            texts = [drawn_text(pick, 1 if turn < 30 else 2)]
            texts.append(drawn_text(pick, 1) if turn % 3 == 0 else texts[0][:-1] + str(pick.randint(0, 1)))
            one, two = (NearRule(text) for text in texts)
            first, second = one.turned().turned(), two.turned().turned()

            def near(word, other):
                return first.price(word, other) is not None, second.price(word, other) is not None

            self.check(unlike_pair(one, two), lambda u, v: near(u, v)[0] != near(u, v)[1])
            self.check(beyond_pair(one, two), lambda u, v: near(u, v) == (True, False))
            self.check(one_way_pair(one), lambda u, v: near(u, v)[0] != near(v, u)[0])

    def test_told(self):
        self.assertIsNone(unlike_pair(NearRule(ALL + "limit 1"), NearRule(ALL + "keep 3\nlimit 1")))
        self.assertIsNone(one_way_pair(NearRule(ALL + "keep 3\nlimit 2")))
        self.assertIsNone(unlike_pair(NearRule("change 1\nlimit 1"), NearRule("change 1\nchange a b 1\nlimit 1")))
        self.assertEqual(sorted(map(len, one_way_pair(NearRule("put 1\nlimit 1")))), [0, 1])
        self.assertEqual(one_way_pair(NearRule("change a b 1\nlimit 1")) in (("a", "b"), ("b", "a")), True)
        self.assertIsNone(beyond_pair(NearRule("change 1\nlimit 1"), NearRule("change 1\nswap 1\nlimit 1")))
        word, other = beyond_pair(NearRule("change 1\nswap 1\nlimit 1"), NearRule("change 1\nlimit 1"))
        self.assertEqual(word, other[::-1])

    def test_long_rows_alone_tell(self):
        found = unlike_pair(NearRule("change 1\nlimit 4"), NearRule("change 1\nlimit 3"))
        self.assertEqual([len(row) for row in found], [4, 4])
        found = unlike_pair(NearRule("swap 1\nlimit 3"), NearRule("swap 1\nlimit 4"))
        self.assertEqual([len(row) for row in found], [8, 8])
        found = beyond_pair(NearRule("drop 1\nlimit 4"), NearRule("drop 1\nlimit 3"))
        self.assertEqual([len(row) for row in found], [4, 0])

    def test_too_many_is_no_other_error(self):
        try:
            unlike_pair(NearRule(ALL + "limit 4"), NearRule(ALL + "change a b 1\nlimit 4"))
        except TooMany as error:
            self.assertEqual((error.what, error.limit), ("states", 20000))
            self.assertGreater(error.many, 20000)


if __name__ == "__main__":
    unittest.main()
