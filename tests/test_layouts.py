"""[37] to [41]: layouts, their weights, layouts judged for all lists, best pairs."""

import itertools
import random
import re
import unittest

from wordquarry.errors import BadNumber, BadText, TooMany
from wordquarry.layoutjudge import longer_steps
from wordquarry.layouts import Layout, plain_layout
from wordquarry.pairs import best_pairs, telling_score
from wordquarry.shares import Share


def drawn(pick, block=5, kinds=("of", "free to")):
    text = "blocks {} {}".format(pick.choice(kinds), pick.randint(1, block))
    if pick.random() < 0.6:
        text += "\nexceptions {} of {} bits".format(pick.randint(1, 3), pick.randint(1, 6))
    if pick.random() < 0.7:
        text += "\nhead {} bits".format(pick.randint(0, 10))
    return Layout(text)


def weight(layout, steps):
    """The weight by all choices of exceptions."""
    told = []
    for many in range(min(layout.exceptions, len(steps)) + 1):
        for places in itertools.combinations(range(len(steps)), many):
            if all(steps[at].bit_length() <= layout.wide for at in places):
                width = max([steps[at].bit_length() for at in range(len(steps)) if at not in places], default=0)
                told.append((len(steps) * width + many * layout.wide + layout.head, many, width))
    return min(told)


def all_cuts(many, block):
    if many == 0:
        yield ()
    for length in range(1, min(many, block) + 1):
        for rest in all_cuts(many - length, block):
            yield (length,) + rest


def total(layout, steps, cuts):
    ends = list(itertools.accumulate(cuts))
    return sum(weight(layout, steps[end - length:end])[0] for end, length in zip(ends, cuts))


class Texts(unittest.TestCase):

    def test_right_ones(self):
        for text, told in (("blocks of 1", (False, 1, 0, 0, 8)), ("blocks free to 16", (True, 16, 0, 0, 8)),
                           ("blocks of 8\nexceptions 4 of 24 bits", (False, 8, 4, 24, 8)),
                           ("blocks of 8\nhead 64 bits", (False, 8, 0, 0, 64)),
                           ("blocks of 10\nexceptions 1 of 1 bits\nhead 0 bits", (False, 10, 1, 1, 0))):
            layout = Layout(text)
            self.assertEqual(layout.text, text)
            self.assertEqual((layout.is_free, layout.block, layout.exceptions, layout.wide, layout.head), told)
        self.assertEqual(plain_layout().text, "blocks of 8")

    def test_wrong_ones(self):
        for text, line, column in (
                ("", 1, 1), ("blocks", 1, 7), ("blocks of", 1, 10), ("blocks of ", 1, 11), ("blocks of 0", 1, 11),
                ("blocks of 17", 1, 12), ("blocks of 08", 1, 11), ("blocks of 8 ", 1, 12), ("blocks of 8\n", 2, 1),
                ("blocks of 8\n\n", 2, 1), ("blocks fre to", 1, 11), ("blocks free 8", 1, 13), (" blocks of 8", 1, 1),
                ("blocks of 8\nexceptions 0", 2, 12), ("blocks of 8\nexceptions 5", 2, 12), ("Blocks", 1, 1),
                ("blocks of 8\nexceptions 1 of 25 bits", 2, 18), ("blocks of 8\nexceptions 1 of 0", 2, 17),
                ("blocks of 8\nexceptions 1 of 2 bit", 2, 22), ("blocks of 8\nexceptions 1 of 2 bits ", 2, 23),
                ("blocks of 8\nhead 65 bits", 2, 7), ("blocks of 8\nhead 00", 2, 7), ("blocks of 8\nhead 1 bits\n", 2, 12),
                ("blocks of 8\nhead 1 bits\nexceptions", 2, 12), ("blocks of 8\nexceptions 1 of 2 bits\n", 3, 1),
                ("blocks of 8\nexceptions 1 of 2 bits\nexceptions", 3, 1), ("blocks  of 8", 1, 8), ("blocks of -1", 1, 11),
                ("blocks of\n8", 1, 10), ("blocks of 1x", 1, 12), ("blocks of 8\nhead x", 2, 6)):
            with self.assertRaises(BadText) as held:
                Layout(text)
            self.assertEqual((held.exception.line, held.exception.column), (line, column), text)
        for value in (None, 8, b"blocks of 8", ["blocks of 8"]):
            with self.assertRaises(BadText) as held:
                Layout(value)
            self.assertEqual((held.exception.line, held.exception.column), (1, 1))

    def test_equal(self):
        self.assertTrue(Layout("blocks of 8\nhead 8 bits") == plain_layout())
        for other in ("blocks free to 8", "blocks of 7", "blocks of 8\nhead 9 bits", "blocks of 8\nexceptions 1 of 1 bits"):
            self.assertFalse(Layout(other) == plain_layout())
        self.assertFalse(plain_layout() == "blocks of 8")


class Weights(unittest.TestCase):

    def test_drawn(self):
        pick = random.Random(71)
        for _ in range(150):
            layout = drawn(pick)
            steps = [pick.choice((0, 1, pick.randrange(8), pick.randrange(300))) for _ in range(pick.randint(0, 7))]
            if 1 <= len(steps) <= layout.block:
                self.assertEqual(layout.block_weight(steps), weight(layout, steps), (layout.text, steps))
                self.assertEqual(layout.block_weight(tuple(steps)), weight(layout, steps))
            cuts = layout.cuts(steps)
            self.assertIsInstance(cuts, tuple)
            self.assertEqual(sum(cuts), len(steps))
            if layout.is_free:
                told = min(all_cuts(len(steps), layout.block),
                           key=lambda cut: (total(layout, steps, cut), len(cut), [-one for one in cut]))
                self.assertEqual(cuts, told)
            else:
                self.assertTrue(all(one == layout.block for one in cuts[:-1]))
            self.assertEqual(layout.total(steps), total(layout, steps, cuts))

    def test_told(self):
        self.assertEqual(plain_layout().block_weight([2 ** 24 - 1]), (32, 0, 24))
        self.assertEqual(Layout("blocks of 8\nexceptions 1 of 4 bits").block_weight([0, 0, 8]), (12, 1, 0))
        self.assertEqual(Layout("blocks of 8\nexceptions 1 of 3 bits").block_weight([0, 0, 8]), (20, 0, 4))
        self.assertEqual(Layout("blocks of 8\nexceptions 2 of 4 bits").block_weight([1]), (9, 0, 1))
        self.assertEqual((plain_layout().cuts([]), plain_layout().total(())), ((), 0))
        self.assertEqual(plain_layout().cuts([1] * 17), (8, 8, 1))
        for steps in ([], [0] * 9, ()):
            with self.assertRaises(BadNumber) as held:
                plain_layout().block_weight(steps)
            self.assertEqual((held.exception.what, held.exception.number), ("steps", len(steps)))


class Judged(unittest.TestCase):

    def test_against_short_rows(self):
        pick = random.Random(72)
        none = 0
        for _ in range(60):
            one, other = drawn(pick, 4, ("of",)), drawn(pick, 4, ("of",))
            width = pick.randint(0, 2)
            found = longer_steps(one, other, width)
            none += found is None
            if found is not None:
                self.assertIsInstance(found, tuple)
                self.assertTrue(all(0 <= step < 2 ** width for step in found))
                self.assertGreater(one.total(found), other.total(found))
            for many in range(6 if found is None else min(6, len(found))):
                for steps in itertools.product([0] + [2 ** at for at in range(width)], repeat=many):
                    self.assertLessEqual(one.total(steps), other.total(steps), (one.text, other.text))
        self.assertGreater(none, 5)

    def test_long_rows(self):
        one, other = Layout("blocks of 16\nhead 31 bits"), Layout("blocks of 8\nhead 15 bits")
        self.assertEqual(longer_steps(one, other, 0), (0,))
        slow = longer_steps(Layout("blocks of 3\nhead 3 bits"), Layout("blocks of 16\nhead 15 bits"), 0)
        self.assertIsNone(longer_steps(Layout("blocks of 5\nhead 5 bits"), Layout("blocks of 5\nhead 6 bits"), 6))
        self.assertEqual(len(slow), 16)

    def test_wrong_values(self):
        fine, free = plain_layout(), Layout("blocks free to 8")
        for one, other, width, what, number in (
                (free, fine, 9, "layout", free), (fine, free, 9, "layout", free), (None, free, 9, "layout", None),
                (fine, "blocks of 8", 1, "layout", "blocks of 8"), (fine, fine, 7, "width", 7), (fine, fine, -1, "width", -1),
                (fine, fine, True, "width", True), (fine, fine, None, "width", None)):
            with self.assertRaises(BadNumber) as held:
                longer_steps(one, other, width)
            self.assertEqual(held.exception.what, what)
            self.assertIs(held.exception.number, number)

    def test_too_many(self):
        one, other = Layout("blocks of 8\nexceptions 4 of 6 bits"), Layout("blocks of 7\nexceptions 4 of 5 bits")
        with self.assertRaises(TooMany) as held:
            longer_steps(one, other, 3)
        self.assertEqual((held.exception.what, held.exception.many, held.exception.limit), ("states", 4001, 4000))
        self.assertIsNone(longer_steps(Layout("blocks of 16\nexceptions 1 of 6 bits"), Layout("blocks of 16"), 6))


class Best(unittest.TestCase):

    def test_best_pairs(self):
        pick = random.Random(73)
        for _ in range(200):
            pairs = [(pick.randint(1, 6), pick.randint(1, 6)) for _ in range(pick.randint(0, 9))]
            told = {one for one in pairs
                    if not any(two != one and two[0] >= one[0] and two[1] <= one[1] for two in pairs)}
            self.assertEqual(best_pairs(pairs), tuple(sorted(told)))
            self.assertEqual(best_pairs(tuple(pairs)), tuple(sorted(told)))
            for best in told:
                score = telling_score(best)
                self.assertEqual([pair for pair in sorted(told) if score(*pair) == 1], [best])
        self.assertEqual((best_pairs([]), best_pairs([(2, 3), (2, 3)])), ((), ((2, 3),)))

    def test_telling_score(self):
        score = telling_score((3, 10))
        for count, length, told in ((3, 10, 1), (4, 9, 1), (2, 10, 0), (3, 11, 0), (9, 11, 0), (2, 1, 0)):
            self.assertIsInstance(score(count, length), Share)
            self.assertEqual(score(count, length), told)


if __name__ == "__main__":
    unittest.main()
