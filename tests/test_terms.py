"""[24] to [27]: maps of words."""

import itertools
import random
import unittest

from wordquarry.bytesrows import Writer
from wordquarry.errors import BadBytes, BadOutput, NoPlace, NotAscending
from wordquarry.signs import all_signs
from wordquarry.terms import TermMap, joined, termmap_of

SMALL = [("car", 3), ("cars", 5), ("cat", 3), ("cats", 5)]


def drawn(pick, most=12, letters="abc"):
    words = {"".join(pick.choice(letters) for _ in range(pick.randint(1, 4)))
             for _ in range(pick.randint(0, most))}
    outputs = pick.choice(((0,), (1,), range(5), (0, 300, 10 ** 30)))
    return [(word, pick.choice(outputs)) for word in sorted(words)]


def row_of(*numbers):
    writer = Writer()
    for number in numbers:
        writer.whole(number)
    return writer.all_bytes()


def sign(one):
    return all_signs().index(one)


def rests(pairs):
    """The unlike rests of all beginnings, and how many arcs leave them."""
    found = {}
    for begin in {word[:at] for word, _ in pairs for at in range(len(word) + 1)} | {""}:
        rest = [(word[len(begin):], output) for word, output in pairs if word.startswith(begin)]
        least = min((output for _, output in rest), default=0)
        found[tuple((word, output - least) for word, output in rest)] = len({word[0] for word, _ in rest if word})
    return len(found), sum(found.values())


def great_map():
    """All rows of 1 to 40 of two signs would be too many to go through: here those of 40."""
    numbers = [41, 1, 0]
    for at in range(40):
        numbers += [4, sign("a"), 0, at, sign("b"), 2 ** at, at]
    return termmap_of(row_of(*(numbers + [7])))


class Maps(unittest.TestCase):

    def test_against_a_dict(self):
        pick = random.Random(31)
        texts = ["", "a", "ab", "b", "ca", "d", "abca", "zz", "!"]
        for _ in range(120):
            pairs = drawn(pick)
            book, plain = TermMap(pairs), dict(pairs)
            self.assertEqual(book.size, len(pairs))
            self.assertEqual((book.states, book.arcs), rests(pairs))
            for at, (word, output) in enumerate(pairs):
                self.assertEqual((book.output_of(word), book.word_at(at)), (output, word))
                self.assertTrue(word in book)
            for text in texts + [word for word in plain]:
                self.assertEqual(book.output_of(text), plain.get(text))
                self.assertEqual(text in book, text in plain)
                self.assertEqual(book.place_of(text), sum(word < text for word in plain))
                self.assertEqual(list(book.pairs_from(text)), [pair for pair in pairs if pair[0] >= text])
            for output in (-1, 0, 1, 2, 3, 4, 5, 300, 301, 10 ** 30):
                told = [word for word, one in pairs if one == output]
                self.assertEqual(book.word_of(output), told[0] if told else None)

    def test_values_that_are_no_words(self):
        book = TermMap(SMALL)
        for value in (None, 3, True, ["car"], ("c", "a", "r"), b"car", "x" * 50, "%", {}, "car "):
            self.assertIsNone(book.output_of(value))
            self.assertFalse(value in book)
        for value in (None, True, "3", 3.0, [3], -3):
            self.assertIsNone(book.word_of(value))

    def test_no_place(self):
        for book, values in ((TermMap(SMALL), (-1, 4, None, True, "0", 1.0)), (TermMap([]), (0,))):
            for value in values:
                with self.assertRaises(NoPlace) as held:
                    book.word_at(value)
                self.assertIs(held.exception.place, value)

    def test_wrong_pairs(self):
        for pairs, error, index in (
                ([("a", 1), ("a", 2)], NotAscending, 1), ([("b", 1), ("a", 2)], NotAscending, 1),
                ([("", 1)], NotAscending, 0), ([("a b", 1)], NotAscending, 0), ([(3, 1)], NotAscending, 0),
                ([("x" * 41, 1)], NotAscending, 0), ([("a", -1)], BadOutput, 0), ([("a", True)], BadOutput, 0),
                ([("a", 1), ("b", None)], BadOutput, 1), ([("a", 1), ("b", "1")], BadOutput, 1),
                ([("a", -1), ("a", 1)], BadOutput, 0), ([("a", 1), ("", -1)], NotAscending, 1),
                ([("a", 1), None], NotAscending, 1), ([("a", 1.0)], BadOutput, 0)):
            with self.assertRaises(error) as held:
                TermMap(pairs)
            self.assertEqual(held.exception.index, index)

    def test_equal(self):
        self.assertTrue(TermMap(SMALL) == TermMap(tuple(SMALL)))
        self.assertFalse(TermMap(SMALL) == TermMap(SMALL[:3]) or TermMap(SMALL) == SMALL)
        self.assertFalse(TermMap([("a", 1)]) == TermMap([("a", 2)]))
        self.assertTrue(TermMap([]) != TermMap([("a", 0)]))

    def test_copies(self):
        pairs = list(SMALL)
        book = TermMap(pairs)
        pairs.append(("x", 1))
        self.assertEqual(list(book.pairs_from("")), SMALL)

    def test_joined(self):
        pick = random.Random(32)
        for many in (0, 1, 2, 4):
            for _ in range(20):
                plain = [drawn(pick, 6) for _ in range(many)]
                words = sorted({word for pairs in plain for word, _ in pairs})
                told = [(word, tuple(dict(pairs).get(word) for pairs in plain)) for word in words]
                self.assertEqual(list(joined([TermMap(pairs) for pairs in plain])), told)

    def test_great_maps(self):
        book = great_map()
        self.assertEqual((book.size, book.states, book.arcs), (2 ** 40, 41, 80))
        word = book.word_at(123456789)
        self.assertEqual((book.output_of(word), book.place_of(word)), (7 + 123456789, 123456789))
        self.assertEqual(book.word_of(7 + 123456789), word)
        self.assertIsNone(book.word_of(6))
        self.assertIsNone(book.word_of(7 + 2 ** 40))
        self.assertEqual(next(book.pairs_from("b")), ("b" + "a" * 39, 7 + 2 ** 39))
        self.assertEqual(next(joined([book, TermMap(SMALL)])), ("a" * 40, (7, None)))
        self.assertTrue(book == great_map())


class Bytes(unittest.TestCase):

    def wrong(self, row, place):
        with self.assertRaises(BadBytes) as held:
            termmap_of(row)
        self.assertEqual(held.exception.place, place, row)

    def test_by_hand(self):
        a, b, s, t, c, r = (sign(one) for one in "abstcr")
        self.assertEqual(TermMap([]).told, (1, 0, 0))
        self.assertEqual(TermMap([("a", 5)]).told, (2, 1, 0, 2, a, 0, 0, 5))
        self.assertEqual(TermMap(SMALL).told,
                         (5, 1, 0, 3, 0, s, 2, 0, 4, r, 0, 1, t, 0, 1, 2, a, 0, 2, 2, c, 0, 3, 3))
        self.assertEqual(TermMap([("a", 300), ("ab", 1)]).told,
                         (3, 1, 0, 3, 171, 2, b, 0, 0, 2, a, 0, 1, 1))

    def test_read_back(self):
        pick = random.Random(33)
        for _ in range(60):
            book = TermMap(drawn(pick))
            again = termmap_of(list(book.told))
            self.assertTrue(again == book and again.told == book.told)
            self.assertEqual(list(again.pairs_from("")), list(book.pairs_from("")))
            self.assertEqual((again.size, again.states, again.arcs), (book.size, book.states, book.arcs))

    def test_changed_rows(self):
        pick = random.Random(34)
        for _ in range(6):
            row = TermMap(drawn(pick, 6)).told
            for at in range(len(row)):
                self.wrong(row[:at], at)
                changed = [row[:at] + row[at + 1:]]
                changed += [row[:at] + (byte,) + row[at + 1:] for byte in range(256)]
                changed += [row[:at] + (byte,) + row[at:] for byte in (0, 1, 2, 66, 128, 255)]
                for new in changed:
                    try:
                        book = termmap_of(new)
                    except BadBytes as error:
                        self.assertLessEqual(error.place, len(new))
                    else:
                        self.assertEqual(book.told, new)
                        self.assertEqual(TermMap(list(book.pairs_from(""))).told, new)
            self.wrong(row + (0,), len(row))

    def test_places(self):
        a, b = sign("a"), sign("b")
        self.wrong((0,), 0)
        self.wrong((), 0)
        self.wrong((1, 0, 1), 2)
        self.wrong((1, 1, 0, 0), 1)
        self.wrong((1, 2, a, 0, 0, 0), 4)
        self.wrong((2, 1, 0, 2, 1, 0, 0, 5), 4)
        self.wrong((2, 1, 0, 2, 95, 0, 0, 5), 4)
        self.wrong((2, 1, 0, 4, b, 0, 0, a, 0, 0, 5), 7)
        self.wrong((2, 1, 0, 4, b, 0, 0, b, 0, 0, 5), 7)
        self.wrong((2, 1, 0, 2, a, 0, 1, 5), 6)
        self.wrong((2, 1, 0, 3, 0, a, 0, 0, 5), 3)
        self.wrong((2, 1, 1, 2, a, 0, 0, 5), 1)
        self.wrong((2, 1, 0, 2, a, 1, 0, 5), 3)
        self.wrong((2, 0, 2, a, 0, 0, 5), 1)
        self.wrong((3, 1, 0, 1, 0, 4, a, 0, 0, b, 0, 1, 0), 3)
        self.wrong((3, 1, 0, 2, a, 0, 0, 2, b, 0, 0, 0), 0)
        self.wrong((4, 1, 0, 2, a, 0, 0, 3, 0, a, 0, 0, 4, a, 0, 2, b, 0, 1, 0), 0)
        self.wrong((128, 0), 1)
        self.wrong((2, 1, 0, 2, a, 128, 0), 6)
        self.assertEqual(termmap_of((2, 1, 0, 2, a, 0, 0, 5)).size, 1)

    def test_forty_arcs(self):
        a = sign("a")
        fine = [41, 1, 0]
        for at in range(40):
            fine += [2, a, 0, at]
        self.assertEqual(termmap_of(tuple(fine + [0])).word_at(0), "a" * 40)
        long = [42] + fine[1:] + [2, a, 0, 40, 0]
        self.wrong(tuple(long), len(fine))


if __name__ == "__main__":
    unittest.main()
