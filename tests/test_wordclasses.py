"""[108]: classes of words, held against all words of up to three signs."""

import itertools
import random
import unittest

from wordquarry.errors import TooMany
from wordquarry.machines import Machine, machine_of
from wordquarry.patterns import plain, prefix, wild
from wordquarry.patterntexts import pattern_of
from wordquarry.signs import row_signs
from wordquarry.wordclasses import any_word, word_classes

PATTERNS = ("'a'*", "'b'*", "w'?'", "w'??'", "w'*a'", "w'*b*'", "any", "any-'a'", "['ab'..'b')", "('a'..]", "w'a?'", "'ab'|'ba'", "w'*a*'&w'??*'",
            "'ab'~<change 1;limit 1>", "any-any", "[..'b']", "w'*~'")


class Classes(unittest.TestCase):

    def test_against_all_short_words(self):
        pick = random.Random(1)
        letters = "!ab~"
        short = ["".join(word) for many in range(1, 4) for word in itertools.product(letters, repeat=many)]
        for _ in range(120):
            words = pick.sample(["a", "b", "ab", "ba", "!", "aa", "~", "abc"], pick.randint(0, 4))
            patterns = [pattern_of(text) for text in pick.sample(PATTERNS, pick.randint(0, 4))]
            found = word_classes(words, patterns)
            self.assertEqual(found[:len(words)], words)
            told = {}
            for word in found[len(words):]:
                self.assertNotIn(word, words)
                fitting = tuple(pattern.fits(word) for pattern in patterns)
                self.assertNotIn(fitting, told)
                told[fitting] = word
            first = {}
            for word in sorted(short, key=lambda word: (len(word), word)):
                fitting = tuple(pattern.fits(word) for pattern in patterns)
                if word not in words:
                    first.setdefault(fitting, word)
            for fitting, word in first.items():
                self.assertIn(fitting, told)
                self.assertLessEqual((len(told[fitting]), told[fitting]), (len(word), word))
                if len(told[fitting]) < 4 and set(told[fitting]) <= set(letters):
                    self.assertEqual(told[fitting], word)
            self.assertTrue(all(1 <= len(word) <= 40 for word in found))

    def test_known_classes(self):
        self.assertEqual(word_classes([], []), ["!"])
        self.assertEqual(word_classes(("!", "#"), []), ["!", "#", "\""])
        self.assertEqual(word_classes(["x"], [pattern_of("'x'")]), ["x", "!"])
        # no word is so long
        long = "w'" + "?" * 39 + "'"
        self.assertEqual(word_classes([], [pattern_of(long)]), ["!", "!" * 39])
        self.assertEqual(word_classes([], [pattern_of("w'" + "?" * 40 + "'")]), ["!", "!" * 40])
        self.assertEqual(word_classes([], [pattern_of("w'" + "?" * 40 + "'-w'" + "?" * 40 + "'")]), ["!"])
        self.assertEqual(word_classes([], [pattern_of("any-w'*!*'")]), ["!", "\""])
        self.assertEqual(word_classes(list(row_signs()), []), list(row_signs()) + ["!!"])

    def test_two_hundred_classes(self):
        signs = row_signs().replace("*", "").replace("?", "").replace("'", "").replace("\\", "").replace("{", "").replace("}", "")
        words = [one + two for one in signs for two in signs][:300]
        patterns = [plain(word) for word in words[:199]]
        self.assertEqual(len(word_classes([], patterns)), 200)
        self.assertEqual(len(word_classes(words[150:250], patterns)), 251)
        for further in (patterns + [plain(words[199])], [prefix(word) for word in words[:210]], [wild("*" + sign + "*") for sign in "abcdefgh"]):
            for own in ([], words[:200]):
                with self.assertRaises(TooMany) as held:
                    word_classes(own, further)
                self.assertEqual((held.exception.what, held.exception.many, held.exception.limit), ("classes", 201, 200))
        self.assertEqual(len(word_classes([], [wild("*" + sign + "*") for sign in "abcdefg"])), 128)

    def test_any_word(self):
        machine = any_word()
        self.assertIsInstance(machine, Machine)
        self.assertEqual(machine.named, tuple(row_signs()))
        for row in ("a", "~" * 40, "!", "ab'c"):
            self.assertTrue(machine.accepts(row))
        for row in ("", "a" * 41, " ", "a b", "\n", ["ab"], [None], ["a", None]):
            self.assertFalse(machine.accepts(row))
        self.assertEqual(machine.rows_many(2, 5), 93 ** 2)
        self.assertEqual(machine, machine_of(0, lambda state, sign: 41 if sign is None else min(state + 1, 41), lambda state: 0 < state < 41, row_signs()))


if __name__ == "__main__":
    unittest.main()
