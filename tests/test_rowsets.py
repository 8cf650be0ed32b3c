"""[109], [110]: spots, and rows of words in which leaves stand, held against all placings."""

import itertools
import random
import time
import unittest

from wordquarry.analyzers import Analyzer
from wordquarry.errors import TooMany
from wordquarry.machines import Machine, all_rows, no_rows
from wordquarry.patterntexts import pattern_of
from wordquarry.plans import Plan
from wordquarry.queries import Every, Exact, Matching, Never, Phrase
from wordquarry.rowsets import leaf_rows, spots_of

PLAN = Plan({"plain": Analyzer("cut letters\nclose of\ndrop the"), "rich": Analyzer("cut letters\nfold capitals\nalso a b c\nalso d a\nend s off 1\nboth")})
WORDS = ("a", "b", "c", "d", "as")


def plain_spots(leaf):
    found = {}
    for word, place, _, _ in PLAN.tokens(leaf.field, leaf.words):
        found.setdefault(place, []).append(word)
    first = min(found, default=0)
    return [(place - first, tuple(found[place])) for place in sorted(found)]


def stands(leaf, row):
    """Whether a leaf stands in a plain row of words, by all placings."""
    if isinstance(leaf, Exact):
        return leaf.word in row
    if isinstance(leaf, Matching):
        return any(leaf.pattern.fits(word) for word in row)
    spots = plain_spots(leaf)
    ways = [[at for at, word in enumerate(row) if word in words] for _, words in spots]
    return bool(spots) and any(len(set(placing)) == len(placing) and
                               sum(abs(at - placing[0] - offset) for at, (offset, _) in zip(placing, spots)) <= leaf.slop
                               for placing in itertools.product(*ways))


class Rows(unittest.TestCase):

    def check(self, leaf, classes, most):
        machine = leaf_rows(leaf, PLAN, classes)
        self.assertIsInstance(machine, Machine)
        for many in range(most + 1):
            for row in itertools.product(range(len(classes)), repeat=many):
                self.assertEqual(machine.accepts(row), stands(leaf, [classes[index] for index in row]), (leaf.told, classes, row))

    def test_spots(self):
        pick = random.Random(1)
        for _ in range(200):
            leaf = Phrase(pick.choice(PLAN.fields), " ".join(pick.choice(("a", "b", "of", "the", "as", "d", "xs", "-")) for _ in range(pick.randint(0, 6))))
            self.assertEqual(spots_of(leaf, PLAN), plain_spots(leaf))
        self.assertEqual(spots_of(Phrase("plain", "the a the of b of the"), PLAN), [(0, ("a",)), (2, ("b",))])
        self.assertEqual(spots_of(Phrase("rich", "x a"), PLAN), [(0, ("x",)), (1, ("a", "b", "c"))])
        self.assertEqual(spots_of(Phrase("plain", "the of"), PLAN), [])

    def test_against_all_rows(self):
        pick = random.Random(2)
        for _ in range(90):
            text = " ".join(pick.choice(("a", "b", "the", "c", "as", "d", "a b")) for _ in range(pick.randint(0, 3)))
            leaf = Phrase(pick.choice(PLAN.fields), text, pick.choice((0, 0, 1, 2, 3, 6)))
            self.check(leaf, pick.sample(WORDS, pick.randint(1, 3)), 5)
        for leaf in (Exact("plain", "a"), Exact("rich", "zz"), Matching("plain", pattern_of("'a'*")), Matching("plain", pattern_of("w'??'|'b'"))):
            for classes in (["a", "b", "as"], ["b"], [], ("as", "x")):
                self.check(leaf, classes, 4)
        self.assertEqual(leaf_rows(Every(), PLAN, ["a"]), all_rows())
        self.assertEqual(leaf_rows(Never(), PLAN, ["a"]), no_rows())
        self.assertEqual(leaf_rows(Phrase("plain", ""), PLAN, ["a"]), no_rows())
        self.assertEqual(leaf_rows(Phrase("plain", "a b"), PLAN, ["a", "c"]), no_rows())

    def test_longer_rows(self):
        pick = random.Random(3)
        met = set()
        for _ in range(60):
            text = " ".join(pick.choice(("a", "b", "the", "c", "as", "d")) for _ in range(pick.randint(2, 5)))
            leaf = Phrase(pick.choice(PLAN.fields), text, pick.choice((0, 1, 2, 3)))
            machine = leaf_rows(leaf, PLAN, list(WORDS))
            for _ in range(60):
                row = [pick.randrange(5) for _ in range(pick.randint(3, 10))]
                wanted = stands(leaf, [WORDS[index] for index in row])
                self.assertEqual(machine.accepts(row), wanted, (leaf.told, row))
                met.add(wanted)
        self.assertEqual(met, {True, False})

    def test_eight_and_nine_spots(self):
        letters = "abcdefgh"
        for slop in (0, 1, 2):
            leaf = Phrase("plain", " ".join(letters), slop)
            machine = leaf_rows(leaf, PLAN, list(letters) + ["x"])
            self.assertTrue(machine.accepts(range(8)))
            self.assertTrue(machine.accepts([8, 8] + list(range(8)) + [8]))
            self.assertEqual(machine.accepts([0, 8] + list(range(1, 8))), False)
            self.assertEqual(machine.accepts([0, 1, 2, 3, 4, 5, 7, 6]), slop == 2)
            self.assertEqual(machine.accepts([0, 1, 2, 3, 4, 5, 6, 8, 7]), slop > 0)
        for text in ("a" * 8, "abababab"):
            machine = leaf_rows(Phrase("plain", " ".join(text)), PLAN, ["a", "b"])
            for row in itertools.product("ab", repeat=10):
                self.assertEqual(machine.accepts(["ab".index(word) for word in row]), text in "".join(row))
        for classes in ([], ["a"]):
            with self.assertRaises(TooMany) as held:
                leaf_rows(Phrase("plain", " ".join(letters) + " of i", 6), PLAN, classes)
            self.assertEqual((held.exception.what, held.exception.many, held.exception.limit), ("places", 9, 8))

    def test_phrases_that_are_always_decided(self):
        """At most three spots, offsets and a slop of at most 2, words that are shared in all ways."""
        begin = time.time()
        for words in (("a",), ("a", "b"), ("a", "the", "b"), ("a", "b", "c"), ("a", "a", "b"), ("a", "a", "a")):
            for slop in (0, 1, 2):
                for field, classes in (("plain", list(WORDS)), ("rich", list("abcdx"))):
                    machine = leaf_rows(Phrase(field, " ".join(words), slop), PLAN, classes)
                    self.assertLess(machine.states, 100)
        # each subset of the spots has words of its own
        lines = ["cut letters", "also x a b c d", "also y a b e f", "also z a c e g"]
        plan = Plan({"plain": Analyzer("\n".join(lines))})
        for slop in (0, 1, 2):
            leaf_rows(Phrase("plain", "x y z", slop), plan, list("abcdefgh"))
        self.assertLess(time.time() - begin, 5)

    def test_many_placings(self):
        """Beyond these it is decided, or told that there is too much."""
        try:
            machine = leaf_rows(Phrase("plain", "a b c d e", 5), PLAN, list("abcdex"))
            for row in ("edcba", "badce", "xabcde", "acxbde", "bcdea"):
                self.assertEqual(machine.accepts(["abcdex".index(word) for word in row]), stands(Phrase("plain", "a b c d e", 5), row))
        except TooMany as told:
            self.assertEqual((told.what, told.many, told.limit), ("states", 20001, 20000))


if __name__ == "__main__":
    unittest.main()
