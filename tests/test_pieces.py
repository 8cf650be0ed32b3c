"""[96], [99]: marks, and pieces held against all choices of windows."""

import itertools
import random
import unittest

from tests.test_plainlook import PLAN, drawn_paper, drawn_query, finding_leaves, plain_tokens, truth
from tests.test_styles import NO_STRETCHES
from wordquarry.errors import BadNumber, BadWord, NoField, TooMany
from wordquarry.marks import marks
from wordquarry.pieces import cut_out, pieces
from wordquarry.queries import Both, Exact, Phrase


def plain_chunks(text):
    found = []
    for at, sign in enumerate(text):
        if sign not in " \n":
            if at and text[at - 1] not in " \n":
                found[-1][1] = at + 1
            else:
                found.append([at, at + 1])
    return found


def best_windows(text, stretches, many, length):
    chunks = plain_chunks(text)
    windows = []
    for at, (start, end) in enumerate(chunks):
        if end - start <= length:
            last = max(place for place in range(at, len(chunks)) if chunks[place][1] <= start + length)
            windows.append((at, last, start, chunks[last][1]))
    rows = []
    for size in range(many + 1):
        for choice in itertools.combinations(windows, size):
            if all(one[1] < two[0] for one, two in zip(choice, choice[1:])):
                held = sum(any(start <= one and two <= end for _, _, start, end in choice) for one, two in stretches)
                rows.append((-held, size, [window[2] for window in choice], tuple(window[2:] for window in choice)))
    return min(rows)[3]


def drawn_text(pick, most):
    return "".join(pick.choice("ab c\n" if pick.random() < 0.5 else "abcd ") for _ in range(pick.randint(0, most)))


def drawn_stretches(pick, many):
    found = []
    at = 0
    while at < many:
        start = at + pick.choice((0, 0, 1, 2, 4))
        end = start + pick.choice((1, 1, 2, 3, 7))
        if end > many:
            break
        found.append((start, end))
        at = end
    return found


class Marks(unittest.TestCase):

    def test_against_all_placings(self):
        pick = random.Random(1)
        met = set()
        for _ in range(600):
            query, paper = drawn_query(pick, 3), drawn_paper(pick)
            for field in PLAN.fields:
                wanted = set()
                if truth(query, paper) and field in paper:
                    tokens = PLAN.tokens(field, paper[field])
                    for leaf in finding_leaves(query):
                        if leaf.fields == (field,):
                            wanted |= {tokens[at][2:] for at in plain_tokens(leaf, paper)}
                found = marks(query, PLAN, paper, field)
                self.assertEqual(found, tuple(sorted(wanted)), (query.told, paper))
                met.add(len(found))
        self.assertGreater(len(met), 4)
        # two tokens of one run are one stretch
        self.assertEqual(marks(Both([Exact("body", "a"), Exact("body", "c")]), PLAN, {"body": "x a"}, "body"), ((2, 3),))

    def test_errors(self):
        nine = Phrase("title", "a b c d e f g h i")
        for query, paper, field, name in ((Exact("zz", "a"), {"yy": ""}, "xx", "zz"), (Exact("title", "a"), {"yy": ""}, "xx", "yy"),
                                          (nine, {"yy": ""}, "xx", "yy"), (Exact("title", "a"), {"title": "a"}, "xx", "xx"),
                                          (Exact("title", "a"), {}, "xx", "xx")):
            with self.assertRaises(NoField) as held:
                marks(query, PLAN, paper, field)
            self.assertEqual(held.exception.name, name)
        with self.assertRaises(TooMany) as held:
            marks(nine, PLAN, {}, "xx")
        self.assertEqual((held.exception.what, held.exception.many, held.exception.limit), ("places", 9, 8))
        self.assertEqual(marks(Exact("title", "a"), PLAN, {"title": "b"}, "title"), ())
        self.assertEqual(marks(Exact("title", "a"), PLAN, {"body": "a"}, "title"), ())
        self.assertEqual(marks(Exact("title", "a"), PLAN, {"title": "a", "body": "a"}, "body"), ())


class Pieces(unittest.TestCase):

    def test_against_all_choices(self):
        pick = random.Random(2)
        met = set()
        for _ in range(2500):
            text = drawn_text(pick, 24)
            stretches = drawn_stretches(pick, len(text))
            many, length = pick.choice((1, 1, 2, 3, 9)), pick.choice((1, 2, 3, 4, 6, 9, 30))
            found = pieces(text, stretches, many, length)
            self.assertEqual(found, best_windows(text, stretches, many, length), (text, stretches, many, length))
            self.assertEqual(found, pieces(text, tuple(stretches), many, length))
            met.add(len(found))
            wanted = tuple((text[start:end], tuple((one - start, two - start) for one, two in stretches if start <= one and two <= end))
                           for start, end in found)
            self.assertEqual(cut_out(text, found, stretches), wanted)
        self.assertGreater(len(met), 4)

    def test_many_windows(self):
        pick = random.Random(3)
        for many in range(1, 10):
            text = " ".join("abcdefghijkl"[:pick.randint(10, 12)])
            stretches = [(at, at + 1) for at in range(0, len(text), 2) if pick.random() < 0.8]
            self.assertEqual(pieces(text, stretches, many, 1), tuple(stretches[:many]))
            self.assertEqual(pieces(text, stretches, many, 200), () if not stretches else ((0, len(text)),))

    def test_known_choices(self):
        text = "one two three four"
        self.assertEqual(pieces(text, [], 9, 200), ())
        self.assertEqual(pieces(text, [(4, 7)], 3, 7), ((0, 7),))
        self.assertEqual(pieces(text, [(4, 7)], 3, 6), ((4, 7),))
        self.assertEqual(pieces(text, [(4, 7)], 3, 2), ())
        # a stretch over two chunks, and one that no window holds
        self.assertEqual(pieces(text, [(2, 5), (12, 15)], 2, 9), ((0, 7),))
        self.assertEqual(pieces("", [], 1, 1), ())
        self.assertEqual(pieces(" \n ", [(0, 3)], 1, 9), ())
        self.assertEqual(pieces("ab cd", [(0, 1), (4, 5)], 9, 2), ((0, 2), (3, 5)))
        long = "x" * 300 + " y"
        self.assertEqual(pieces(long, [(0, 1), (301, 302)], 9, 200), ((301, 302),))
        self.assertEqual(len(pieces("ab " * 3000, [(at, at + 2) for at in range(0, 9000, 3)], 9, 200)), 9)
        self.assertEqual(cut_out(text, [(0, 7), (8, 13)], [(2, 3), (4, 8), (9, 13)]), (("one two", ((2, 3),)), ("three", ((1, 5),))))
        self.assertEqual(cut_out(text, (), [(0, 1)]), ())

    def test_errors_in_their_order(self):
        for stretches in NO_STRETCHES:
            with self.assertRaises(BadWord) as held:
                pieces("abcdef", stretches, None, None)
            self.assertEqual(held.exception.what, "stretches")
        for text in (None, 3, "a\t", ["a"]):
            with self.assertRaises(BadWord) as held:
                pieces(text, None, None, None)
            self.assertEqual(held.exception.what, "text")
        for value in (0, 10, -1, None, True, "1", 1.0, [1], 10 ** 30):
            with self.assertRaises(BadNumber) as held:
                pieces("ab", [], value, None)
            self.assertEqual((held.exception.what, held.exception.number), ("many", value))
        for value in (0, 201, -1, None, True, "1", 1.0, [1]):
            with self.assertRaises(BadNumber) as held:
                pieces("ab", [], 9, value)
            self.assertEqual((held.exception.what, held.exception.number), ("length", value))


if __name__ == "__main__":
    unittest.main()
