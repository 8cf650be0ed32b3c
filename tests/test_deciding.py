"""[111], [112]: queries decided for all plain papers, held against all small ones."""

import itertools
import random
import time
import unittest

from tests.test_rowsets import stands as leaf_stands
from tests.test_rowsets import PLAN as OTHER_PLAN
from wordquarry.analyzers import Analyzer
from wordquarry.deciding import found_apart, found_beyond, idle_leaves, least_found, least_missed
from wordquarry.errors import NoField, TooMany
from wordquarry.patterntexts import pattern_of
from wordquarry.plans import Plan
from wordquarry.queries import (Best, Both, Every, Exact, Flat, Matching, Never, Phrase, Some, Weighed, Without,
                                leaves_of)
from wordquarry.shares import Share

PLAN = OTHER_PLAN
WORDS = ("a", "b", "as", "z")


def drawn_leaf(pick):
    field = pick.choice(PLAN.fields)
    kind = pick.randrange(6)
    if kind < 2:
        return Exact(field, pick.choice(("a", "b", "as", "c")))
    if kind < 3:
        return Matching(field, pattern_of(pick.choice(("'a'*", "w'?'", "'b'|'as'", "any", "any-any"))))
    if kind < 4:
        return pick.choice((Every(), Never()))
    return Phrase(field, " ".join(pick.choice(("a", "b", "the", "as", "c")) for _ in range(pick.randint(0, 3))), pick.choice((0, 0, 0, 1)))


def drawn_query(pick, depth, leaves):
    if depth == 0 or pick.random() < 0.2:
        return pick.choice(leaves)
    below = [drawn_query(pick, depth - 1, leaves) for _ in range(pick.randint(1, 3))]
    kind = pick.randrange(7)
    if kind < 2:
        return Both(below)
    if kind == 2:
        return Some(below, pick.randint(1, len(below)))
    if kind == 3:
        return Best(below, pick.choice((0, 1, Share(1, 2))))
    return (Without(below[0]), Weighed(below[0], 2), Flat(below[0], 0))[kind - 4]


def truth(query, standing):
    """Whether a query holds, by a function that tells whether a leaf stands."""
    if isinstance(query, Without):
        return not truth(query.query, standing)
    if isinstance(query, (Weighed, Flat)):
        return truth(query.query, standing)
    if isinstance(query, Both):
        return all(truth(one, standing) for one in query.queries)
    if isinstance(query, (Some, Best)):
        return sum(truth(one, standing) for one in query.queries) >= getattr(query, "least", 1)
    return standing(query)


def standing_in(paper):
    def standing(leaf):
        if isinstance(leaf, (Every, Never)):
            return isinstance(leaf, Every)
        return bool(leaf_stands(leaf, paper.get(leaf.field, ())))
    return standing


def finds(query, paper):
    return truth(query, standing_in(paper))


def all_papers(most, words=WORDS):
    """All plain papers of up to so many words, those of fewer words first."""
    for many in range(most + 1):
        for first in range(many + 1):
            for row in itertools.product(words, repeat=many):
                paper = {"plain": row[:first], "rich": row[first:]}
                yield {field: paper[field] for field in paper if paper[field]}


class Deciding(unittest.TestCase):

    def check(self, told, papers, is_wanted, where):
        """A told paper shows it, and none of the small papers is smaller."""
        if told is not None:
            self.assertIsInstance(told, dict)
            for field, row in told.items():
                self.assertTrue(isinstance(row, tuple) and row and field in PLAN.fields, where)
            self.assertTrue(is_wanted(told), (where, told))
        for paper in papers:
            size = sum(map(len, paper.values()))
            if told is not None and size >= sum(map(len, told.values())):
                break
            self.assertFalse(is_wanted(paper), (where, paper))
        return told

    def test_pairs_of_queries(self):
        pick = random.Random(1)
        papers = list(all_papers(4))
        met = {}
        for _ in range(160):
            leaves = [drawn_leaf(pick) for _ in range(pick.randint(1, 4))]
            one, other = drawn_query(pick, 2, leaves), drawn_query(pick, 2, leaves)
            where = (one.told, other.told)
            told = self.check(found_apart(one, other, PLAN), papers, lambda paper: finds(one, paper) != finds(other, paper), where)
            beyond = self.check(found_beyond(one, other, PLAN), papers, lambda paper: finds(one, paper) and not finds(other, paper), where)
            back = found_beyond(other, one, PLAN)
            self.assertEqual(told is None, beyond is None and back is None)
            found = self.check(least_found(one, PLAN), papers, lambda paper: finds(one, paper), where)
            missed = self.check(least_missed(one, PLAN), papers, lambda paper: not finds(one, paper), where)
            for key, value in (("apart", told), ("beyond", beyond), ("found", found), ("missed", missed)):
                met[key, None if value is None else sum(map(len, value.values()))] = True
        for key in ("apart", "beyond", "found", "missed"):
            self.assertTrue({(key, None), (key, 0), (key, 1)} <= set(met) or key == "missed", met)
        self.assertIn(("apart", 2), met)

    def test_two_fields(self):
        pick = random.Random(2)
        for _ in range(60):
            one = Both([Phrase("plain", pick.choice(("a b", "b", "a the b", "a a")), pick.choice((0, 1))), drawn_query(pick, 1, [drawn_leaf(pick)])])
            other = Some([Exact("rich", "a"), Without(Phrase("plain", pick.choice(("b a", "a", "a b"))))], pick.choice((1, 2)))
            self.check(found_apart(one, other, PLAN), all_papers(4, ("a", "b", "z")), lambda paper: finds(one, paper) != finds(other, paper), (one.told, other.told))
            self.check(found_beyond(one, other, PLAN), all_papers(4, ("a", "b", "z")), lambda paper: finds(one, paper) and not finds(other, paper), (one.told, other.told))

    def test_known_pairs(self):
        text = lambda words, slop=0: Phrase("plain", words, slop)
        self.assertIsNone(found_beyond(text("a b"), text("a b", 1), PLAN))
        self.assertEqual(len(found_beyond(text("a b", 1), text("a b"), PLAN)["plain"]), 3)
        self.assertEqual(found_beyond(text("a b", 2), text("a b", 1), PLAN), {"plain": ("b", "a")})
        self.assertIsNone(found_apart(text("a of b"), text("a b"), PLAN))
        self.assertEqual(len(found_apart(text("a the b"), text("a b"), PLAN)["plain"]), 2)
        self.assertIsNone(found_apart(Exact("plain", "a"), text("a"), PLAN))
        self.assertIsNone(found_beyond(text("a b"), Both([Exact("plain", "a"), Exact("plain", "b")]), PLAN))
        self.assertEqual(least_missed(Without(Exact("plain", "a")), PLAN), {"plain": ("a",)})
        self.assertEqual(least_found(Every(), PLAN), {})
        self.assertIsNone(least_found(Never(), PLAN))
        self.assertIsNone(least_missed(Some([Exact("plain", "a"), Without(Exact("plain", "a"))]), PLAN))
        self.assertIsNone(least_found(text("the of"), PLAN))
        self.assertIsNone(least_found(Both([Matching("plain", pattern_of("any")), Without(Matching("plain", pattern_of("w'*'")))]), PLAN))
        self.assertEqual(sum(map(len, least_found(Both([text("a b c d"), Exact("rich", "q")]), PLAN).values())), 5)
        self.assertIsNone(found_apart(Never(), Flat(Never(), 3), PLAN))

    def test_idle_leaves(self):
        pick = random.Random(3)
        met = set()
        for _ in range(150):
            leaves = [drawn_leaf(pick) for _ in range(pick.randint(1, 3))]
            query = drawn_query(pick, 2, leaves)
            cases = {}
            own = {leaf.told: leaf for leaf in leaves_of(query) if isinstance(leaf, (Phrase, Exact, Matching))}
            for paper in all_papers(3, ("a", "b", "as", "c", "z")):
                cases[tuple(standing_in(paper)(leaf) for leaf in own.values())] = True
            idle = []
            for at, told in enumerate(own):
                flips = [dict(zip(own, case)) for case in cases]
                if all(truth(query, lambda leaf: {**case, told: True}.get(leaf.told, isinstance(leaf, Every)))
                       == truth(query, lambda leaf: {**case, told: False}.get(leaf.told, isinstance(leaf, Every))) for case in flips):
                    idle.append(told)
            wanted = [told for field in PLAN.fields for told in own if own[told].field == field and told in idle]
            found = idle_leaves(query, PLAN)
            self.assertEqual(found, [told for told in wanted if told in found])
            # cases of more words than were gone through may make a leaf count
            self.assertTrue(set(found) <= set(wanted))
            if not any(isinstance(leaf, Phrase) for leaf in leaves):
                self.assertEqual(found, wanted, query.told)
            met.add(len(found))
        self.assertGreater(len(met), 2)
        one, two = Exact("rich", "a"), Exact("plain", "b")
        self.assertEqual(idle_leaves(Some([Both([one, two]), Both([one, Without(two)]), one]), PLAN), ['plain:="b"'])
        self.assertEqual(idle_leaves(Both([one, two, Never(), one]), PLAN), ['plain:="b"', 'rich:="a"'])
        # no row has the phrase without the word, but if the word did not stand there, it would count
        self.assertEqual(idle_leaves(Both([Phrase("plain", "a b"), Exact("plain", "a")]), PLAN), [])
        # two leaves that never stand apart from one another, of which one decides nothing
        one, two = Phrase("plain", "a b"), Both([Phrase("plain", "a b"), Exact("plain", "a")])
        self.assertIsNone(found_apart(one, two, PLAN))
        self.assertEqual(idle_leaves(Some([one, Both([one, Exact("plain", "a")])]), PLAN), ['plain:="a"'])
        self.assertEqual(idle_leaves(Every(), PLAN), [])

    def test_errors_in_their_order(self):
        nine = Phrase("plain", "a b c d e f g h i")
        ten = Phrase("plain", "a b c d e f g h i j")
        many = [Matching("plain", pattern_of("w'*" + sign + "*'")) for sign in "abcdefgh"]
        asks = (lambda one, other: found_apart(one, other, PLAN), lambda one, other: found_beyond(one, other, PLAN),
                lambda one, other: least_found(Both([one, other]), PLAN), lambda one, other: least_missed(Both([one, other]), PLAN),
                lambda one, other: idle_leaves(Both([one, other]), PLAN))
        for ask in asks:
            with self.assertRaises(NoField) as held:
                ask(Both([nine, Exact("zz", "a")] + many), Exact("yy", "a"))
            self.assertEqual(held.exception.name, "yy")
            with self.assertRaises(TooMany) as held:
                ask(nine, Both(many))
            self.assertEqual((held.exception.what, held.exception.many, held.exception.limit), ("classes", 201, 200))
            for one, other, spots in ((nine, ten, 9), (ten, nine, 10), (Exact("rich", "a"), Both([ten, nine]), 10)):
                with self.assertRaises(TooMany) as held:
                    ask(one, other)
                self.assertEqual((held.exception.what, held.exception.many, held.exception.limit), ("places", spots, 8))
            with self.assertRaises(TooMany) as held:
                ask(Both([Matching("rich", leaf.pattern) for leaf in many]), nine)
            self.assertEqual((held.exception.what, held.exception.many), ("places", 9))

    def test_too_many_cases(self):
        leaves = [Exact(field, word) for field in PLAN.fields for word in "abcdefgh"]
        with self.assertRaises(TooMany) as held:
            least_found(Both(leaves), PLAN)
        self.assertEqual((held.exception.what, held.exception.many, held.exception.limit), ("cases", 2 ** 16, 20000))
        self.assertEqual(sum(map(len, least_found(Both(leaves[:7] + leaves[8:15]), PLAN).values())), 14)
        with self.assertRaises(TooMany) as held:
            least_found(Both([Exact("plain", "w" + "x" * at) for at in range(15)]), PLAN)
        self.assertEqual((held.exception.what, held.exception.many, held.exception.limit), ("states", 20001, 20000))

    def test_queries_that_are_always_decided(self):
        """Four leaves, at most one of them with a slop, three spots, words shared in many ways."""
        begin = time.time()
        lines = ["cut letters", "also x a b c d", "also y a b e f", "also z a c e g", "also u a h", "also v b h"]
        plan = Plan({"plain": Analyzer("\n".join(lines))})
        texts = [" ".join(words) for words in itertools.permutations("xyz")] + ["u v x", "v u", "x x y", "u u u", "v x"]
        pick = random.Random(4)
        for turn in range(10):
            plain = [Phrase("plain", text) for text in pick.sample(texts, 3)]
            loose = Phrase("plain", pick.choice(texts), 1) if turn % 2 else Phrase("plain", pick.choice(("x y", "u v", "x x")), 2)
            one = Both([plain[0], Some([plain[1], loose]), Without(plain[2])])
            other = Some(plain + [loose], 2)
            told = found_apart(one, other, plan)
            self.assertIsNotNone(told)
            idle_leaves(other, plan)
        self.assertLess(time.time() - begin, 40)


if __name__ == "__main__":
    unittest.main()
