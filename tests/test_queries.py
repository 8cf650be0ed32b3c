"""[56] to [58], [62]: queries, their attributes and their texts."""

import random
import unittest

from tests.test_settling import drawn_query
from wordquarry.errors import BadNumber, BadWord
from wordquarry.patterns import either, plain, prefix
from wordquarry.queries import (Best, Both, Every, Exact, Flat, Matching, Never, Phrase, Query, Some, Weighed,
                                Without, leaves_of)
from wordquarry.querytexts import read_query
from wordquarry.settling import settled
from wordquarry.shares import Share

LEAF = Every()
NO_NAMES = (None, "", "A", "a1", "abcdefghijklm", 5, True, ("a",), [], "a b")
NO_NUMBERS = (None, -1, "1", 1.0, True, (1,), [])


class Making(unittest.TestCase):

    def wrong(self, error, field, value, make):
        with self.assertRaises((BadWord, BadNumber)) as held:
            make()
        self.assertIsInstance(held.exception, error)
        self.assertEqual(held.exception.what, field)
        if error is BadNumber:
            self.assertIs(held.exception.number, value)

    def test_words(self):
        for value in NO_NAMES:
            self.wrong(BadWord, "field", value, lambda: Phrase(value, None, 9))
            self.wrong(BadWord, "field", value, lambda: Exact(value, None))
            self.wrong(BadWord, "field", value, lambda: Matching(value, None))
        for value in (None, 5, "a%b", "\t", b"a", ["a"]):
            self.wrong(BadWord, "text", value, lambda: Phrase("a", value, 9))
        for value in (None, 5, "", "a b", "a\n", "x" * 41, "%", ["a"]):
            self.wrong(BadWord, "word", value, lambda: Exact("a", value))
        for value in (None, 5, "'a'", LEAF):
            self.wrong(BadWord, "pattern", value, lambda: Matching("a", value))

    def test_queries(self):
        for value in (None, 5, "a", [], (), {}, LEAF, [None], [LEAF, 5], ["a"], [[LEAF]], (LEAF, Share(1))):
            for make in (Both, lambda one: Some(one, 99), lambda one: Best(one, 99)):
                self.wrong(BadWord, "query", value, lambda: make(value))
        for value in (None, 5, "a", [LEAF], (LEAF,), Query):
            for make in (Without, lambda one: Weighed(one, -1), lambda one: Flat(one, -1)):
                self.wrong(BadWord, "query", value, lambda: make(value))

    def test_numbers(self):
        for value in NO_NUMBERS + (7, 10 ** 40, Share(1)):
            self.wrong(BadNumber, "slop", value, lambda: Phrase("a", "", value))
        for value in NO_NUMBERS + (0, 3, 10 ** 40, Share(1)):
            self.wrong(BadNumber, "least", value, lambda: Some([LEAF, LEAF], value))
        for value in NO_NUMBERS + (2, Share(-1, 9), Share(9, 8)):
            self.wrong(BadNumber, "rest", value, lambda: Best([LEAF], value))
        for value in NO_NUMBERS + (Share(-1, 9),):
            self.wrong(BadNumber, "weight", value, lambda: Flat(LEAF, value))
            self.wrong(BadNumber, "weight", value, lambda: Weighed(LEAF, value))
        for value in (0, Share(0)):
            self.wrong(BadNumber, "weight", value, lambda: Weighed(LEAF, value))
            self.assertEqual(Flat(LEAF, value).weight, Share(0))
        for value in (0, 1, Share(0), Share(1), Share(1, 2)):
            self.assertIsInstance(Best([LEAF], value).rest, Share)
            self.assertEqual(Best([LEAF], value).rest, value)

    def test_attributes(self):
        pattern = prefix("a")
        rows = [Phrase("b", "x y", 6), Exact("a", "w"), Matching("c", pattern)]
        both = Both(rows)
        some = Some((both, LEAF), 2)
        rows.append(None)
        self.assertEqual((rows[0].field, rows[0].words, rows[0].slop, Phrase("a", "").slop), ("b", "x y", 6, 0))
        self.assertEqual((rows[1].field, rows[1].word, rows[2].field, rows[2].pattern), ("a", "w", "c", pattern))
        self.assertEqual((both.queries, both.fields, both.size, both.depth), (tuple(rows[:3]), ("a", "b", "c"), 4, 2))
        self.assertEqual((some.least, some.queries, some.size, some.depth), (2, (both, LEAF), 6, 3))
        self.assertEqual((Some([LEAF]).least, Best([LEAF]).rest), (1, Share(0)))
        self.assertEqual((LEAF.fields, LEAF.size, LEAF.depth, Never().fields), ((), 1, 1, ()))
        query = Without(Weighed(Flat(Best([both, both], Share(1, 3)), 0), Share(3, 2)))
        self.assertEqual((query.size, query.depth, query.fields), (12, 6, ("a", "b", "c")))
        self.assertEqual((query.query.weight, query.query.query.weight), (Share(3, 2), Share(0)))
        self.assertEqual(leaves_of(query), tuple(rows[:3]) * 2)
        self.assertEqual(leaves_of(LEAF), (LEAF,))
        for one in (both, LEAF, query):
            self.assertIsInstance(one, Query)

    def test_equal(self):
        pick = random.Random(1)
        pool = [drawn_query(pick, 2) for _ in range(120)]
        pool += [Phrase("a", "x"), Phrase("a", "x", 1), Phrase("b", "x"), Exact("a", "x"), Matching("a", plain("x")),
                 Every(), Never(), Both([LEAF]), Some([LEAF]), Best([LEAF]), Best([LEAF], 1), Without(LEAF),
                 Weighed(LEAF, 1), Flat(LEAF, 1), Weighed(LEAF, 2), Flat(LEAF, 0)]
        for one in pool:
            self.assertEqual(one, same_again(one))
            self.assertFalse(one == one.told)
            self.assertFalse(one == None)  # noqa: E711
            for other in pool:
                self.assertEqual(one == other, parts(one) == parts(other))


def same_again(query):
    return read_query(query.told, "z")


def parts(query):
    """Class and attributes, all the way down."""
    told = [type(query).__name__]
    for name in ("field", "words", "slop", "word", "least"):
        told.append(getattr(query, name, None))
    for name in ("rest", "weight"):
        share = getattr(query, name, None)
        told.append(None if share is None else share.written())
    told.append(query.pattern.text if isinstance(query, Matching) else None)
    below = getattr(query, "queries", None) or ((query.query,) if hasattr(query, "query") else ())
    return told + [parts(one) for one in below]


class Told(unittest.TestCase):

    def test_known_ones(self):
        a, b, c = Phrase("f", "a"), Exact("f", 'b"'), Matching("f", either(plain("c"), plain("d")))
        rows, row = Some([a, b]), Both([a, b])
        for query, wanted in (
                (a, 'f:"a"'), (Phrase("f", ' "', 2), 'f:" """~2'), (b, 'f:="b"""'), (c, "f:{'c'|'d'}"), (Every(), "*"),
                (Never(), "!"), (row, 'f:"a" f:="b"""'), (Both([a]), 'all(f:"a")'), (rows, 'f:"a" | f:="b"""'),
                (Some([a]), '1of(f:"a")'), (Some([a, b], 2), '2of(f:"a", f:="b""")'), (Best([a, b]), '<f:"a", f:="b""">'),
                (Best([a], Share(2, 4)), '<f:"a">+1/2'), (Best([a], 1), '<f:"a">+1'), (Without(a), '-f:"a"'),
                (Flat(a, Share(1, 2)), '[1/2]f:"a"'), (Weighed(a, 2), 'f:"a"^2'), (Weighed(Weighed(a, 2), 3), 'f:"a"^2^3'),
                (Both([rows, row]), '(f:"a" | f:="b""") (f:"a" f:="b""")'), (Some([rows, row]), '(f:"a" | f:="b""") | f:"a" f:="b"""'),
                (Best([rows, row]), '<f:"a" | f:="b""", f:"a" f:="b""">'), (Without(row), '-(f:"a" f:="b""")'),
                (Both([rows]), 'all(f:"a" | f:="b""")'), (Some([rows, a], 2), '2of(f:"a" | f:="b""", f:"a")'),
                (Without(Without(a)), '--f:"a"'), (Flat(Without(a), 1), '[1]-f:"a"'), (Weighed(Without(a), 2), '(-f:"a")^2'),
                (Weighed(Flat(a, 1), 2), '([1]f:"a")^2'), (Weighed(rows, 2), '(f:"a" | f:="b""")^2'),
                (Weighed(Both([a]), 2), 'all(f:"a")^2'), (Flat(Weighed(a, 2), 3), '[3]f:"a"^2'), (Flat(row, 3), '[3](f:"a" f:="b""")'),
                (Both([Without(a), Flat(a, 1)]), '-f:"a" [1]f:"a"'), (Weighed(Best([a]), 2), '<f:"a">^2')):
            self.assertEqual(query.told, wanted)
            self.assertEqual(read_query(wanted, "zz"), query)

    def test_read_back(self):
        pick = random.Random(2)
        for _ in range(1200):
            query = drawn_query(pick, 4)
            for one in (query, settled(query)):
                if one.size <= 120:
                    found = read_query(one.told, pick.choice(("a", "b", "zz")))
                    self.assertEqual(parts(found), parts(one), one.told)
                    self.assertEqual(found.told, one.told)


if __name__ == "__main__":
    unittest.main()
