"""[18] to [21]: what analyzers do with all texts, held against going through the short ones."""

import itertools
import random
import unittest

from tests import drawing
from wordquarry.analysed import (first_word, settled_word, shortest_text, told_words, unlike_tokens)
from wordquarry.analyzers import Analyzer
from wordquarry.errors import BadWord
from wordquarry.machines import all_rows, machine_of, no_rows, one_row
from wordquarry.signs import all_signs

FEW = sorted("\n!-'01AaBb")
SHORT = ["".join(row) for many in range(4) for row in itertools.product(FEW, repeat=many)]
TINY = ["".join(row) for many in range(2) for row in itertools.product(all_signs(), repeat=many)]


def order(text):
    return len(text), text


def freely(analyzer, text):
    """The tokens of a text without the bound of 40 signs."""
    return analyzer.rule.tokens(text, None)


def is_settled(analyzer, word):
    told = freely(analyzer, word)
    return [token[0] for token in told] == [word] and told[0][2:] == (0, len(word))


def read(*lines):
    return Analyzer("\n".join(lines))


class Unlike(unittest.TestCase):

    def check(self, one, two):
        found = unlike_tokens(one, two)
        if found is not None:
            self.assertNotEqual(freely(one, found), freely(two, found))
        for text in SHORT + TINY:
            if found is None or order(text) < order(found):
                self.assertEqual(freely(one, text), freely(two, text), (one.text, two.text, text))
        return found

    def test_drawn(self):
        pick = random.Random(21)
        told = 0
        for _ in range(40):
            lines = drawing.drawn(pick)
            other = drawing.near(pick, lines) if pick.random() < 0.7 else drawing.drawn(pick)
            told += self.check(read(*lines), read(*other)) is None
        self.assertGreater(told, 3)

    def test_told(self):
        self.assertIsNone(unlike_tokens(read("cut all"), read("cut all")))
        self.assertIsNone(unlike_tokens(read("cut all"), read("cut all", "then")))
        self.assertEqual(unlike_tokens(read("cut all"), read("cut letters")), "!")
        self.assertEqual(unlike_tokens(read("cut letters"), read("cut letters", "fold capitals")), "A")
        self.assertEqual(unlike_tokens(read("cut letters", "drop a"), read("cut letters", "close a")), "a\nA")
        self.assertEqual(unlike_tokens(read("cut letters", "drop over 2"), read("cut letters", "drop over 3")),
                         "AAA")
        self.assertIsNone(unlike_tokens(read("cut all", "end a off 1", "end ba off 1"),
                                        read("cut all", "end a off 1")))
        self.assertIsNone(unlike_tokens(read("cut all", "drop over 1", "drop under 2"),
                                        read("cut letters", "drop over 3", "drop under 4")))

    def test_beyond_forty_signs(self):
        one = read("cut letters", "drop over 40")
        self.assertEqual(unlike_tokens(one, read("cut letters")), "A" * 41)
        one = read("cut letters", "leave xz", "drop under 40")
        two = read("cut letters", "leave y", "fold x y", "drop under 40")
        self.assertEqual(unlike_tokens(one, two), "A" * 39 + "x")
        one = read("cut letters", "end a off 20", "end b off 20", "drop under 22")
        two = read("cut letters", "end a off 20", "drop under 22")
        found = unlike_tokens(one, two)
        self.assertEqual(found, "A" * 21 + "b")


class Words(unittest.TestCase):

    def test_drawn(self):
        pick = random.Random(22)
        runs = [text for text in SHORT if text and "\n" not in text]
        for _ in range(25):
            analyzer = read(*drawing.drawn(pick, 6))
            come = {}
            for run in runs:
                for word, _, start, end in freely(analyzer, run):
                    if (start, end) == (0, len(run)):
                        come.setdefault(word, run)
            machine = told_words(analyzer)
            for word in come:
                self.assertTrue(machine.accepts(word), (analyzer.text, word))
            for word in pick.sample(sorted(come), min(6, len(come))):
                text = shortest_text(analyzer, word)
                self.assertLessEqual(order(text), order(come[word]))
                self.assertIn(word, [token[0] for token in freely(analyzer, text)])
            self.check_others(pick, analyzer, machine, come)
            self.check_first(analyzer, machine)
            self.check_settled(analyzer, machine)

    def check_others(self, pick, analyzer, machine, come):
        for word in pick.sample(SHORT[1:], 80):
            if "\n" not in word and word not in come:
                text = shortest_text(analyzer, word)
                self.assertEqual(machine.accepts(word), text is not None)
                if text is not None:
                    self.assertIn(word, [token[0] for token in freely(analyzer, text)])

    def check_first(self, analyzer, machine):
        other = machine_of(0, lambda many, sign: min(many + (sign in ("a", "A", "1")), 5),
                           lambda many: many in (2, 4), "aA1")
        found = first_word(analyzer, other)
        if found is not None:
            self.assertTrue(machine.accepts(found) and other.accepts(found))
        for word in SHORT + TINY:
            if found is None or order(word) < order(found):
                self.assertFalse(machine.accepts(word) and other.accepts(word))

    def check_settled(self, analyzer, machine):
        found = settled_word(analyzer)
        if found is not None:
            self.assertTrue(machine.accepts(found) and not is_settled(analyzer, found))
        for word in SHORT + TINY:
            if machine.accepts(word) and (found is None or order(word) < order(found)):
                self.assertTrue(is_settled(analyzer, word), (analyzer.text, word))

    def test_told(self):
        plain = read("cut letters")
        self.assertIsNone(settled_word(plain))
        self.assertEqual(shortest_text(plain, "cat"), "cat")
        self.assertIsNone(shortest_text(plain, "a-b"))
        self.assertTrue(told_words(plain).accepts("x" * 50))
        self.assertFalse(told_words(plain).accepts(""))
        ends = read("cut letters", "fold capitals", "end ies to y 2", "end s off 3")
        self.assertEqual(shortest_text(ends, "pony"), "PONY")
        self.assertEqual(shortest_text(ends, "cats"), "CATSS")
        self.assertEqual(settled_word(ends), "aaas")
        self.assertIsNone(settled_word(read("cut letters", "fold capitals")))
        self.assertEqual(settled_word(read("cut all", "both", "end s off 1")), "!s")

    def test_long_words(self):
        ends = read("cut letters", "end ab off 1")
        self.assertEqual(shortest_text(ends, "x" * 40), "x" * 40)
        self.assertIsNone(shortest_text(ends, "x" * 38 + "ab"))
        self.assertEqual(shortest_text(ends, "x" * 36 + "ab"), "x" * 36 + "abab")
        self.assertEqual(first_word(ends, one_row("x" * 50)), "x" * 50)
        self.assertEqual(first_word(read("cut all", "also a " + "b" * 40, "drop a"), one_row("b" * 40)), "b" * 40)
        self.assertIsNone(first_word(ends, no_rows()))
        self.assertEqual(first_word(ends, all_rows()), "A")
        self.assertIsNone(first_word(read("cut all", "drop over 1", "drop under 2"), all_rows()))

    def test_errors_and_their_order(self):
        plain = read("cut all")
        for deed in (lambda: unlike_tokens(None, plain), lambda: unlike_tokens(plain, "cut all"),
                     lambda: settled_word(1), lambda: shortest_text("x", ""), lambda: told_words(None),
                     lambda: first_word(plain.text, 3)):
            with self.assertRaises(BadWord) as held:
                deed()
            self.assertEqual(held.exception.what, "analyzer")
        for word in ("", "a b", "x" * 41, None, 3, "a\n"):
            with self.assertRaises(BadWord) as held:
                shortest_text(plain, word)
            self.assertEqual(held.exception.what, "word")
        for machine in (None, "a", plain):
            with self.assertRaises(BadWord) as held:
                first_word(plain, machine)
            self.assertEqual(held.exception.what, "machine")

    def test_bounds_below_which_nothing_is_too_many(self):
        lines = ["cut letters digits signs -'", "fold capitals",
                 "drop ab cd ef gh ij kl mn op qr st uv wx", "end ab to c 3", "end s off 3", "then",
                 "end xy to zz 3"]
        analyzer = read(*lines)
        self.assertTrue(told_words(analyzer).accepts("c"))
        self.assertIsNotNone(settled_word(analyzer))
        one = read(*(lines[:1] + lines[2:6]))
        two = read(*(lines[:1] + lines[2:4] + lines[5:]))
        self.assertEqual(unlike_tokens(one, two), "'''s")


if __name__ == "__main__":
    unittest.main()
