"""[32] to [35]: patterns, their texts, and what is told of all rows."""

import itertools
import random
import unittest

from tests.test_nearrules import drawn_text
from wordquarry.errors import BadNumber, BadText, BadWord
from wordquarry.nearrules import NearRule
from wordquarry.patterns import (any_row, beyond_row, both, common_row, either, least_row_of, many_rows,
                                 near, plain, prefix, span, unlike_row, wild, without)
from wordquarry.patterntexts import pattern_of
from wordquarry.signs import all_signs

SIGNS = all_signs()[2:]
ROWS = ["".join(row) for many in range(1, 4) for row in itertools.product("ab~", repeat=many)]
ROWS = sorted(set(ROWS) | set(SIGNS) | {one + two for one in "a!~" for two in SIGNS}, key=lambda row: (len(row), row))


def word(pick, most=2):
    return "".join(pick.choice("ab~") for _ in range(pick.randint(1, most)))


def leaf(pick):
    kind = pick.randrange(6)
    if kind == 0:
        return plain(word(pick, 3))
    if kind == 1:
        return prefix(word(pick))
    if kind == 2:
        return wild("".join(pick.choice(("a", "~", "?", "*", "\\?", "\\<")) for _ in range(pick.randint(1, 4))))
    if kind == 3:
        return near(word(pick, 3), NearRule(drawn_text(pick, 2)))
    if kind == 4:
        return any_row()
    while True:
        try:
            return span(pick.choice((None, word(pick))), pick.choice((None, word(pick))),
                        pick.random() < 0.5, pick.random() < 0.5)
        except BadWord:
            pass


def tree(pick, depth):
    if depth == 0 or pick.random() < 0.3:
        return leaf(pick)
    return pick.choice((both, without, either))(tree(pick, depth - 1), tree(pick, depth - 1))


class Makers(unittest.TestCase):

    def test_texts(self):
        a, b, c = plain("a"), plain("b"), plain("c")
        for pattern, text in (
                (plain("cat"), "'cat'"), (plain("'\\{}?*"), "'\\'\\\\\\<\\>?*'"), (prefix("ca"), "'ca'*"),
                (wild("c?t*"), "w'c?t*'"), (wild("\\?\\*\\'\\\\\\<\\>"), "w'\\?\\*\\'\\\\\\<\\>'"),
                (span("ca", "cb", True, False), "['ca'..'cb')"), (span("ca", None, False, False), "('ca'..]"),
                (span("ca", None, True, False), "['ca'..]"), (span(None, "cb", False, True), "[..'cb']"),
                (span(None, "cb", False, False), "[..'cb')"), (span("a", "a", True, True), "['a'..'a']"),
                (near("cat", NearRule("put 1\nlimit 1")), "'cat'~<put 1;limit 1>"),
                (near("c", NearRule("change \\ { 0\nchange ; > 1\nlimit 1".replace("change \\ { 0\nchange ; > 1",
                                    "change ; > 1\nchange \\ { 0\nchange } ' 2"))),
                 "'c'~<change ; > 1;change \\\\ \\< 0;change \\> ' 2;limit 1>"), (any_row(), "any"),
                (both(a, b), "'a'&'b'"), (both(both(a, b), c), "'a'&'b'&'c'"), (both(a, both(b, c)), "'a'&('b'&'c')"),
                (without(a, without(b, c)), "'a'-('b'-'c')"), (without(without(a, b), c), "'a'-'b'-'c'"),
                (without(both(a, b), c), "'a'&'b'-'c'"), (both(a, without(b, c)), "'a'&('b'-'c')"),
                (either(both(a, b), c), "'a'&'b'|'c'"), (either(a, both(b, c)), "'a'|'b'&'c'"),
                (both(either(a, b), c), "('a'|'b')&'c'"), (either(either(a, b), c), "'a'|'b'|'c'"),
                (either(a, either(b, c)), "'a'|('b'|'c')"), (without(a, either(b, c)), "'a'-('b'|'c')")):
            self.assertEqual(pattern.text, text)
            self.assertTrue(pattern_of(text) == pattern)
            self.assertTrue(pattern_of("(" + text + ")") == pattern)
        self.assertFalse(a == b or a == "'a'")

    def test_bad_words(self):
        a, rule = plain("a"), NearRule("limit 1")
        for deed, what in (
                (lambda: plain(""), ""), (lambda: plain("a b"), "a b"), (lambda: prefix("x" * 41), "x" * 41),
                (lambda: prefix(None), None), (lambda: span("", "", True, True), ""),
                (lambda: span("a", 3, True, True), 3), (lambda: span(3, "", True, True), 3),
                (lambda: span(None, None, True, True), None), (lambda: span("b", "a", True, True), "a"),
                (lambda: span("a", "a", True, False), "a"), (lambda: span("a", "a", False, True), "a"),
                (lambda: near("", rule), ""), (lambda: near("a", "limit 1"), "limit 1"), (lambda: near(1, 2), 1),
                (lambda: both(a, 1), 1), (lambda: both("a", 1), "a"), (lambda: without(a, None), None),
                (lambda: either([], a), []), (lambda: least_row_of("any"), "any"), (lambda: unlike_row(a, 0), 0),
                (lambda: beyond_row(0, 1), 0), (lambda: common_row(a, rule), rule), (lambda: many_rows("a", 0), "a")):
            with self.assertRaises(BadWord) as held:
                deed()
            self.assertEqual(held.exception.what, what)

    def test_wild_texts(self):
        for text, column in (("", 1), ("a'", 2), ("a b", 2), ("a\\", 3), ("a\\x", 3), ("{", 1), ("x" * 41, 41),
                             ("*" * 40 + "\\?", 41), ("a}", 2), ("\t", 1), ("a%", 2), ("\n", 1)):
            with self.assertRaises(BadText) as held:
                wild(text)
            self.assertEqual((held.exception.line, held.exception.column), (1, column), text)
        for value in (None, 3, ["a"], b"a"):
            with self.assertRaises(BadText) as held:
                wild(value)
            self.assertEqual((held.exception.line, held.exception.column), (1, 1))
        self.assertEqual(wild("\\?" * 40).text, "w'" + "\\?" * 40 + "'")


class Texts(unittest.TestCase):

    def wrong(self, text, column):
        with self.assertRaises(BadText) as held:
            pattern_of(text)
        self.assertEqual((held.exception.line, held.exception.column), (1, column), text)

    def test_wrong_ones(self):
        for text, column in (
                ("", 1), ("''", 2), ("'a", 3), ("'a'b", 4), ("'a''", 4), ("'a b'", 3), ("'{'", 2), ("'\\a'", 3),
                ("'" + "x" * 41, 42), ("'" + "x" * 40 + "\\", 42), ("w", 2), ("wa", 2), ("w''", 3), ("an", 3),
                ("anx", 3), ("any ", 4), ("anyany", 4), ("(", 2), ("()", 2), ("('a'", 5), ("('a'))", 6), (")", 1),
                ("'a'&", 5), ("'a'&|", 5), ("'a'*'b'", 5), ("'a'**", 5), ("('a')*", 6), ("[", 2), ("[]", 2),
                ("['a'", 5), ("['a']", 5), ("['a'.'b']", 6), ("['a'..", 7), ("['a'..)", 7), ("[..]", 4), ("[..)", 4),
                ("(..'a']", 2), ("['b'..'a']", 8), ("['b'..'b)", 10), ("['b'..'b')", 10), ("('b'..'b']", 9),
                ("['ab'..'a']", 10), ("['ab'..'aa", 10), ("('~'..'~']", 9), ("['a'..'b'", 10), ("['a'..'b'&", 10),
                ("'a'~", 5), ("'a'~>", 5), ("'a'~<", 6), ("'a'~<limit 5>", 12), ("'a'~<limit 1", 13),
                ("'a'~<limit 1;", 13), ("'a'~<put 1>", 11), ("'a'~<change { b 1;limit 1>", 13),
                ("'a'~<change \\a b 1;limit 1>", 14), ("'a'~<change ~ \\< 1;change ~ \\", 30),
                ("'a'~<put 1\nlimit 1>", 11), ("'a'~ <limit 1>", 5), (" any", 1), ("any\n", 4), ("%", 1), ("'%'", 2),
                ("w'a\\b'", 5), ("w'{'", 3), ("w'" + "?" * 41, 43), ("'a'|'b'|", 9), ("any-", 5), ("any+any", 4)):
            self.wrong(text, column)
        for value in (None, 3, b"any", ["any"], True):
            self.wrong(value, 1)

    def test_high_words_that_may_come(self):
        for text in ("['a'..'a']", "['~'..'~']", "['ab'..'b']", "('ab'..'abc')", "['\\>'..'\\>!']", "('a'..'\\>')"):
            self.assertEqual(pattern_of(text).text, text)
        great = "~" * 40
        self.assertEqual(pattern_of("['" + great + "'..'" + great + "']").text, "['" + great + "'..'" + great + "']")
        self.wrong("('" + great + "'..'", 46)
        self.wrong("['" + great + "'..'" + great + "')", 88)
        self.wrong("('b'..'\\'", 9)
        self.wrong("('~'..'\\", 8)
        self.wrong("('b" + "~" * 39 + "'..'b" + "~" * 39, 47)
        self.assertEqual(pattern_of("('b" + "~" * 39 + "'..]").text[-3:], "..]")

    def test_brackets(self):
        for many in (1, 20):
            self.assertEqual(pattern_of("(" * many + "any" + ")" * many).text, "any")
            self.assertEqual(pattern_of("(" * many + "('a'..'b')" + ")" * many).text, "('a'..'b')")
        self.wrong("(" * 21 + "any" + ")" * 21, 22)
        self.wrong("(" * 21 + "'a'" + ")" * 21, 25)
        self.wrong("(" * 21, 22)
        self.wrong("(" * 22, 22)
        self.wrong("(" * 20 + "any", 24)
        self.assertEqual(pattern_of("(('a'))&((any))").text, "'a'&any")

    def test_lengths(self):
        fine = "|".join(["'" + "x" * 17 + "'"] * 99) + "|'" + "b" * 18 + "'"
        self.assertEqual(len(fine), 2000)
        self.assertEqual(pattern_of(fine).text, fine)
        self.wrong(fine + "|", 2001)
        self.wrong(fine + "\t", 2001)
        self.wrong(fine[:-1] + "bb", 2001)
        self.wrong("'" + fine, 2)
        long = any_row()
        for _ in range(700):
            long = either(long, any_row())
        self.assertTrue(long.fits("a"))
        self.wrong(long.text, 2001)

    def test_changed_texts(self):
        pick = random.Random(51)
        for _ in range(60):
            text = tree(pick, 2).text
            self.assertEqual(pattern_of(text).text, text)
            at = pick.randrange(len(text))
            for changed in (text[:at] + pick.choice("'\\{(.~&;1 b%") + text[at:], text[:at] + text[at + 1:], text[:at]):
                try:
                    again = pattern_of(changed).text
                except BadText as error:
                    self.assertTrue(error.line == 1 and 1 <= error.column <= len(changed) + 1)
                    # cut off there it is still the beginning of a pattern
                    if error.column > 1:
                        with self.assertRaises(BadText) as held:
                            pattern_of(changed[:error.column - 1] + "\t")
                        self.assertEqual(held.exception.column, error.column)
                else:
                    self.assertEqual(pattern_of(again).text, again)


class Rows(unittest.TestCase):

    def check_first(self, found, wanted):
        for row in ROWS:
            if wanted(row):
                self.assertIsNotNone(found)
                self.assertLessEqual((len(found), found), (len(row), row))
                break
        self.assertTrue(found is None or wanted(found))

    def test_drawn(self):
        pick = random.Random(52)
        for _ in range(40):
            one, two = tree(pick, 3), tree(pick, 2)
            first = {row for row in ROWS if one.fits(row)}
            machine = one.made_machine()
            self.assertFalse(machine.accepts(""))
            self.assertNotIn("~", machine.named)
            for row in ROWS:
                self.assertEqual(machine.accepts(row), row in first, (one.text, row))
            for state in range(machine.states):
                for sign in SIGNS:
                    self.assertTrue(sign in machine.named or machine.after(state, sign) == machine.after(state, "~"))
            for sign in machine.named:
                self.assertTrue(any(machine.after(state, sign) != machine.after(state, "~")
                                    for state in range(machine.states)))
            self.check_first(least_row_of(one), one.fits)
            self.check_first(unlike_row(one, two), lambda row: one.fits(row) != two.fits(row))
            self.check_first(beyond_row(one, two), lambda row: one.fits(row) and not two.fits(row))
            self.check_first(common_row(one, two), lambda row: one.fits(row) and two.fits(row))
            self.assertEqual(many_rows(one, 1), len([row for row in first if len(row) == 1]))

    def test_fits(self):
        self.assertTrue(any_row().fits("x" * 100) and any_row().fits("'"))
        for value in ("", " ", "a b", "a\n", None, 3, ["a"], b"a", "%", True):
            self.assertFalse(any_row().fits(value))
        for text, fine, wrong in (
                ("'ca'*", ("ca", "cat"), ("c", "bca")), ("w'c?t*'", ("cat", "cctx"), ("ct", "cat"[:2])),
                ("w'*'", ("a", "~~"), ()), ("w'\\?\\*'", ("?*",), ("a*",)), ("['ca'..'cb')", ("ca", "caz"), ("c", "cb", "cba")),
                ("('ca'..'cb']", ("ca!", "cb"), ("ca", "cb!")), ("['b'..]", ("b", "~"), ("a~",)),
                ("[..'b')", ("!", "a~~"), ("b",)), ("'cat'~<change 1;limit 1>", ("cat", "bat"), ("ca", "bax")),
                ("'a'~<drop 1;limit 1>", ("a",), ("b",)), ("any-'a'&any", ("b",), ("a",)), ("any-('a'|'b')", ("c",), ("a", "b"))):
            pattern = pattern_of(text)
            for row in fine:
                self.assertTrue(pattern.fits(row), (text, row))
            for row in wrong:
                self.assertFalse(pattern.fits(row), (text, row))

    def test_told(self):
        self.assertEqual(least_row_of(any_row()), "!")
        self.assertIsNone(least_row_of(pattern_of("'a'-any")))
        self.assertEqual(least_row_of(pattern_of("'a'~<drop 1;put 1;limit 1>-'a'".replace("drop 1;put 1", "put 1;drop 1"))), "!a")
        self.assertIsNone(unlike_row(pattern_of("w'?*'"), any_row()))
        self.assertEqual(unlike_row(pattern_of("['a'..'b')"), prefix("a")), None)
        self.assertEqual(common_row(prefix("ab"), wild("*c")), "abc")
        self.assertEqual(beyond_row(prefix("~"), plain("~")), "~!")
        self.assertEqual(any_row().made_machine().rows, ((1,), (1,)))

    def test_many_rows(self):
        self.assertEqual(many_rows(any_row(), 1000), 93 ** 1000)
        self.assertEqual(many_rows(pattern_of("any-'a'*"), 3), 93 ** 3 - 93 ** 2)
        self.assertEqual(many_rows(pattern_of("w'?~'"), 2), 93)
        for length in (0, 1001, -1, None, True, "1", 1.0):
            with self.assertRaises(BadNumber) as held:
                many_rows(any_row(), length)
            self.assertEqual((held.exception.what, held.exception.number), ("length", length))


if __name__ == "__main__":
    unittest.main()
