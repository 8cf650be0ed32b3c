"""[97], [98]: styles, held against going through all texts with marked stretches."""

import itertools
import random
import unittest
from unittest import mock

from wordquarry import styles
from wordquarry.errors import BadText, BadWord, TooMany
from wordquarry.signs import all_signs
from wordquarry.styles import Style, clash, readings_many, shown

NO_STRETCHES = (None, 0, "", "ab", {}, [1], [(0,)], [(0, 1, 2)], [("0", "1")], [(0, None)], [(True, 2)], [(0, True)], [(-1, 1)], [(1, 1)],
                [(2, 1)], [(0, 7)], [(0, 2), (1, 3)], [(2, 3), (0, 1)], [(0, 1), (0, 1)], [(0, 1), None], [[0.0, 1]], [((0, 1), 2)])


def bad(text):
    try:
        Style(text)
    except BadText as told:
        return told.line, told.column
    return None


def drawn_style(pick, letters="ab<>", most=3):
    def piece(longest):
        return "".join(pick.choice(letters) for _ in range(pick.randint(1, longest)))
    lines = ["before " + piece(most), "after " + piece(most)]
    for sign in pick.sample(letters + "cd", pick.randint(0, 4)):
        lines.append("sign {} as {}".format(sign, piece(most)))
    return Style("\n".join(lines))


def all_stretches(many):
    """All rows of marked stretches of a text of so many signs."""
    def behind(start):
        yield []
        for begin in range(start, many):
            for end in range(begin + 1, many + 1):
                for rest in behind(end):
                    yield [(begin, end)] + rest
    return list(behind(0))


def plain_shown(text, stretches, style, written):
    row = ""
    for at, sign in enumerate(text):
        row += style.opening * any(start == at for start, _ in stretches)
        row += written.get(sign, sign)
        row += style.closing * any(end == at + 1 for _, end in stretches)
    return row


def told_signs(style):
    return {line.split(" ")[1]: line.split(" ")[3] for line in style.text.split("\n")[2:]}


class Texts(unittest.TestCase):

    def test_wrong_lines(self):
        head = "before <b>\nafter </b>"
        for text, place in (("", (1, 1)), (" before x", (1, 1)), ("befor x", (1, 1)), ("before", (1, 7)), ("before ", (1, 8)),
                            ("before  x", (1, 8)), ("before x ", (1, 10)), ("before x y", (1, 10)), ("before " + "x" * 13, (1, 8)),
                            ("after x", (1, 1)), ("before x", (2, 1)), ("before x\n", (2, 1)), ("before x\nbefore x", (2, 1)),
                            ("before x\nsign a as b", (2, 1)), ("before x\nafter", (2, 6)), ("before x\nafter x x", (2, 9)),
                            ("before x\nafter " + "y" * 13, (2, 7)), (head + "\n", (3, 1)), (head + "\nbefore x", (3, 1)), (head + "\nsign", (3, 5)),
                            (head + "\nsign ab as c", (3, 6)), (head + "\nsign  as c", (3, 6)), (head + "\nsign a", (3, 7)),
                            (head + "\nsign a is c", (3, 8)), (head + "\nsign a as", (3, 10)), (head + "\nsign a as ", (3, 11)),
                            (head + "\nsign a as b c", (3, 13)), (head + "\nsign a as " + "c" * 13, (3, 11)), (head + "\nsigns a as b", (3, 1)),
                            (head + "\nsign a as b\nsign a as c", (4, 6)), (head + "\nsign a as b\n\nsign b as c", (4, 1))):
            self.assertEqual(bad(text), place, text)

    def test_bounds(self):
        head = "before " + "x" * 12 + "\nafter " + "y" * 12
        signs = ["sign {} as {}".format(sign, "z" * 12) for sign in "abcdefghijklm"]
        style = Style("\n".join([head] + signs[:12]))
        self.assertEqual((style.opening, style.closing, style.written("a"), style.written("m")), ("x" * 12, "y" * 12, "z" * 12, "m"))
        self.assertEqual(style.text, "\n".join([head] + signs[:12]))
        for lines in ([head] + signs, ["?"] * 15, [""] * 20):
            with self.assertRaises(TooMany) as held:
                Style("\n".join(lines))
            many = len("\n".join(lines).split("\n"))
            self.assertEqual((held.exception.what, held.exception.many, held.exception.limit), ("lines", many, 14))
        for value in (None, 5, b"before x", "before \t", "before x\nafter %"):
            with self.assertRaises(BadWord) as held:
                Style(value)
            self.assertEqual(held.exception.what, "text")
        self.assertEqual(Style(head), Style(head))
        self.assertNotEqual(Style(head), Style(head + "\nsign a as b"))
        self.assertNotEqual(Style(head), head)
        # the words of lines and letters are pieces, too
        self.assertEqual(Style("before sign\nafter as\nsign s as s").written("s"), "s")


class Written(unittest.TestCase):

    def test_sign_by_sign(self):
        pick = random.Random(1)
        for _ in range(150):
            style = drawn_style(pick)
            text = "".join(pick.choice("abcd <\n") for _ in range(pick.randint(0, 6)))
            stretches = pick.choice(all_stretches(len(text)))
            wanted = plain_shown(text, stretches, style, told_signs(style))
            self.assertEqual(shown(text, stretches, style), wanted)
            self.assertEqual(shown(text, tuple(stretches), style), wanted)
        style = Style("before <b>\nafter </b>\nsign < as &lt;\nsign & as &amp;")
        self.assertEqual(shown("a<b & c", [(0, 1), (1, 3)], style), "<b>a</b><b>&lt;b</b> &amp; c")
        for sign in all_signs():
            self.assertEqual(style.written(sign), {"<": "&lt;", "&": "&amp;"}.get(sign, sign))

    def test_other_values(self):
        style = Style("before x\nafter y")
        for stretches in NO_STRETCHES:
            with self.assertRaises(BadWord) as held:
                shown("abcdef", stretches, style)
            self.assertEqual(held.exception.what, "stretches", stretches)
        for text in (None, 7, ["a"], "a\t", "%"):
            with self.assertRaises(BadWord) as held:
                shown(text, None, style)
            self.assertEqual(held.exception.what, "text")
            with self.assertRaises(BadWord) as held:
                readings_many(text, style)
            self.assertEqual(held.exception.what, "row")


class Readings(unittest.TestCase):

    def test_against_all_texts(self):
        pick = random.Random(2)
        greatest = 0
        for _ in range(25):
            style = drawn_style(pick, "ab", 2)
            written = told_signs(style)
            found = {}
            for many in range(5):
                for text in itertools.product("abcd", repeat=many):
                    for stretches in all_stretches(many):
                        row = plain_shown(text, stretches, style, written)
                        if len(row) <= 4 and set(row) <= set("ab"):
                            found[row] = found.get(row, 0) + 1
            for many in range(5):
                for row in itertools.product("ab", repeat=many):
                    row = "".join(row)
                    self.assertEqual(readings_many(row, style), found.get(row, 0), (style.text, row))
            greatest = max([greatest] + list(found.values()))
        self.assertGreater(greatest, 5)

    def test_long_rows(self):
        style = Style("before a\nafter a\nsign b as a\nsign c as aa")
        ways = [[1, 0, 0]]
        for at in range(1, 91):
            # texts of a, b (one sign each) and c (two signs); around a stretch one sign each
            out, opened, within = [0, 0, 0], 0, 0
            one, two = ways[at - 1], ways[at - 2] if at > 1 else [0, 0, 0]
            ways.append([2 * one[0] + two[0] + one[2], one[0], 2 * (one[1] + one[2]) + two[1] + two[2]])
        self.assertEqual(readings_many("a" * 90, style), ways[90][0])
        self.assertGreater(ways[90][0], 10 ** 30)
        self.assertEqual(readings_many("", style), 1)
        self.assertEqual(readings_many("x" * 1000, style), 1)
        self.assertEqual(readings_many("b", style), 0)

    def test_clashes(self):
        pick = random.Random(3)
        met = {}
        for _ in range(120):
            style = drawn_style(pick, pick.choice(("ab<>", "ab", "a<>")), pick.choice((1, 2, 3, 3)))
            if pick.random() < 0.2:
                ends = pick.sample(("a", "b", "c", "d", "ab", "ba", ">"), 3)
                style = Style("before <{}\nafter <{}\nsign < as <{}".format(*ends))
            found = clash(style)
            letters = [sign for sign in all_signs() if sign in "ab<>cd\n"]
            wanted = None
            for many in range(1, 5 if len(letters) > 6 else 6):
                for row in itertools.product(letters, repeat=many):
                    if wanted is None and readings_many("".join(row), style) > 1:
                        wanted = "".join(row)
                if wanted is not None:
                    break
            if wanted is not None:
                self.assertEqual(found, wanted, style.text)
            elif found is not None:
                self.assertGreater(len(found), 4, (found, style.text))
                self.assertGreater(readings_many(found, style), 1, style.text)
            met[found is None, wanted is None] = True
        self.assertIn((True, True), met)
        self.assertIn((False, False), met)

    def test_known_clashes(self):
        escaped = "before <b>\nafter </b>\nsign < as &lt;\nsign > as &gt;\nsign & as &amp;"
        self.assertIsNone(clash(Style(escaped)))
        self.assertEqual(clash(Style("before <b>\nafter </b>")), "<b>\n</b>")
        self.assertEqual(clash(Style("before <b>\nafter </b>\nsign < as &lt;")), "&lt;")
        self.assertEqual(clash(Style("before [\nafter ]\nsign [ as \\[\nsign ] as \\]")), "\\[\\]")
        self.assertIsNone(clash(Style("before [\nafter ]\nsign [ as \\[\nsign ] as \\]\nsign \\ as \\\\")))
        self.assertEqual(clash(Style("before a\nafter b\nsign a as x\nsign b as y")), "x")
        # two signs that are written alike, and the only sign that is written otherwise
        self.assertEqual(clash(Style("before a\nafter b\nsign a as ~\nsign b as ~\nsign ~ as ~")), "~")
        self.assertEqual(clash(Style("before aa\nafter aa\nsign a as aa")), "aa\naa")

    def test_long_clashes(self):
        """The first clash of ends that fit one another late."""
        for many in (3, 6, 11):
            style = Style("before [\nafter ]\nsign [ as <>\nsign ] as ><\nsign a as {}\nsign b as {}b\nsign c as {}\nsign < as ~<\nsign > as ~>".format(
                "x" * many + "y", "x" * many, "yz"))
            found = clash(style)
            if found is not None:
                self.assertGreater(readings_many(found, style), 1)

    def test_too_many_states(self):
        style = Style("before aab\nafter aba\nsign a as aaab\nsign b as abab\nsign c as aabb\nsign d as abb")
        whole = clash(style)
        with mock.patch.object(styles, "STATES", 3):
            with self.assertRaises(TooMany) as held:
                clash(style)
        self.assertEqual((held.exception.what, held.exception.many, held.exception.limit), ("states", 4, 3))
        self.assertEqual(clash(style), whole)


if __name__ == "__main__":
    unittest.main()
