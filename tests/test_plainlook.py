"""[63] to [66]: what a query means, held against all placings and sums of fractions."""

import itertools
import random
import unittest
from fractions import Fraction

from tests.test_settling import score
from wordquarry.analyzers import Analyzer
from wordquarry.errors import BadNumber, NoField, TooMany
from wordquarry.patterntexts import pattern_of
from wordquarry.plainlook import anchors, count_of, holds, score_of, touched
from wordquarry.plans import Plan
from wordquarry.queries import (Best, Both, Every, Exact, Flat, Matching, Never, Phrase, Some, Weighed,
                                Without, leaves_of)
from wordquarry.scorings import Scoring
from wordquarry.shares import Share

RICH = Analyzer("cut letters\nfold capitals\ndrop the\nend s off 1\nalso a b c\nboth")
PLAIN = Analyzer("cut letters\nclose of")
PLAN = Plan({"title": PLAIN, "body": RICH})
SCORING = Scoring("(papers + 1 over having) times 2*count + 1 over count + long + 1/3")


def drawn_text(pick, most=7):
    return " ".join(pick.choice(("a", "b", "c", "as", "bs", "ds", "d", "of", "the", "a-b")) for _ in range(pick.randint(0, most)))


def drawn_paper(pick):
    return {field: drawn_text(pick) for field in ("title", "body") if pick.random() < 0.85}


def drawn_leaf(pick):
    field = pick.choice(("title", "body"))
    kind = pick.randrange(8)
    if kind < 5:
        return Phrase(field, drawn_text(pick, 4), pick.choice((0, 0, 1, 2, 3, 6)))
    if kind == 5:
        return Exact(field, pick.choice(("a", "b", "as", "c", "of")))
    return Matching(field, pattern_of(pick.choice(("'a'*", "w'?'", "'b'|'d'", "any"))))


def drawn_query(pick, depth):
    if depth == 0 or pick.random() < 0.2:
        return pick.choice((drawn_leaf(pick), drawn_leaf(pick), Every(), Never()))
    below = [drawn_query(pick, depth - 1) for _ in range(pick.randint(1, 3))]
    weight = pick.choice((1, 2, Share(2, 3)))
    kind = pick.randrange(6)
    if kind == 0:
        return Both(below)
    if kind == 1:
        return Some(below, pick.randint(1, len(below)))
    if kind == 2:
        return Best(below, pick.choice((0, 1, Share(1, 2))))
    return (Without(below[0]), Weighed(below[0], weight), Flat(below[0], weight))[kind - 3]


def placings(phrase, paper):
    """All placings of a phrase, as rows of indexes, with their costs."""
    if phrase.field not in paper:
        return []
    spots = {}
    for word, place, _, _ in PLAN.tokens(phrase.field, phrase.words):
        spots.setdefault(place, set()).add(word)
    tokens = PLAN.tokens(phrase.field, paper[phrase.field])
    begin = min(spots, default=0)
    found = []
    rows = [[at for at, token in enumerate(tokens) if token[0] in spots[place]] for place in sorted(spots)]
    for row in itertools.product(*rows):
        if row and len(set(row)) == len(row):
            cost = sum(abs(tokens[at][1] - tokens[row[0]][1] - place + begin) for at, place in zip(row, sorted(spots)))
            if cost <= phrase.slop:
                found.append((row, cost))
    return found


def plain_anchors(phrase, paper):
    costs = {}
    for row, cost in placings(phrase, paper):
        costs[row[0]] = min(cost, costs.get(row[0], cost))
    return sorted(costs.items())


def plain_tokens(leaf, paper):
    """The indexes by which a leaf is found."""
    if isinstance(leaf, Phrase):
        return {at for row, _ in placings(leaf, paper) for at in row}
    tokens = PLAN.tokens(leaf.field, paper[leaf.field]) if leaf.field in paper else []
    return {at for at, token in enumerate(tokens)
            if (token[0] == leaf.word if isinstance(leaf, Exact) else leaf.pattern.fits(token[0]))}


def plain_count(leaf, paper):
    if isinstance(leaf, (Every, Never)):
        return int(isinstance(leaf, Every))
    return len(plain_anchors(leaf, paper)) if isinstance(leaf, Phrase) else len(plain_tokens(leaf, paper))


def truth(query, paper):
    told = {leaf.told: Fraction(1) if plain_count(leaf, paper) else None for leaf in leaves_of(query)}
    return score(query, told) is not None


def finding_leaves(query):
    if isinstance(query, Without):
        return []
    below = getattr(query, "queries", None) or ((query.query,) if hasattr(query, "query") else None)
    return [query] if below is None else [leaf for one in below for leaf in finding_leaves(one)]


class Meaning(unittest.TestCase):

    def test_leaves(self):
        pick = random.Random(1)
        met = set()
        for _ in range(1500):
            leaf, paper = drawn_leaf(pick), drawn_paper(pick)
            self.assertEqual(count_of(leaf, PLAN, paper), plain_count(leaf, paper), (leaf.told, paper))
            self.assertEqual(holds(leaf, PLAN, paper), plain_count(leaf, paper) > 0)
            if isinstance(leaf, Phrase):
                found = anchors(leaf, PLAN, paper)
                self.assertEqual(found, plain_anchors(leaf, paper), (leaf.told, paper))
                met.update(cost for _, cost in found)
            self.assertEqual(touched(leaf, PLAN, paper, leaf.field), tuple(sorted(plain_tokens(leaf, paper))), (leaf.told, paper))
        self.assertGreater(len(met), 4)
        self.assertEqual((count_of(Every(), PLAN, {}), count_of(Never(), PLAN, {})), (1, 0))

    def test_trees(self):
        pick = random.Random(2)
        for _ in range(700):
            query, paper = drawn_query(pick, 3), drawn_paper(pick)
            self.assertEqual(holds(query, PLAN, paper), truth(query, paper), (query.told, paper))
            for field in ("title", "body"):
                wanted = set()
                if truth(query, paper):
                    for leaf in finding_leaves(query):
                        if leaf.fields == (field,):
                            wanted |= plain_tokens(leaf, paper)
                self.assertEqual(touched(query, PLAN, paper, field), tuple(sorted(wanted)), (query.told, paper))
            self.assertEqual(touched(query, PLAN, paper, "other"), ())

    def test_known_ones(self):
        paper = {"body": "The Cats of cat", "title": "of"}
        self.assertEqual(anchors(Phrase("body", "cat of cat"), PLAN, paper), [(0, 0)])
        self.assertEqual(anchors(Phrase("body", "the"), PLAN, paper), [])
        self.assertEqual(anchors(Phrase("body", ""), PLAN, paper), [])
        self.assertEqual(anchors(Phrase("title", "of"), PLAN, paper), [])
        # dropped words leave a gap, closed ones leave none
        self.assertEqual(anchors(Phrase("body", "x the b"), PLAN, {"body": "x b"}), [])
        self.assertEqual(anchors(Phrase("body", "x the b", 1), PLAN, {"body": "x b"}), [(0, 1)])
        self.assertEqual(anchors(Phrase("title", "x of b"), PLAN, {"title": "x b"}), [(0, 0)])
        # a word that stands once is not taken twice
        self.assertFalse(holds(Phrase("title", "x x", 6), PLAN, {"title": "x y"}))
        self.assertTrue(holds(Phrase("title", "x y", 2), PLAN, {"title": "y x"}))
        self.assertEqual(touched(Phrase("title", "x y", 2), PLAN, {"title": "y x y z y"}, "title"), (0, 1, 2, 4))
        self.assertEqual(touched(Both([Without(Exact("title", "q")), Exact("title", "x")]), PLAN, {"title": "x q"}, "title"), ())
        self.assertEqual(touched(Both([Without(Exact("title", "q")), Exact("title", "x")]), PLAN, {"title": "x"}, "title"), (0,))

    def test_one_word_many_times(self):
        phrase = Phrase("title", " ".join("x" * 8), 6)
        self.assertEqual(len(anchors(phrase, PLAN, {"title": " ".join("x" * 30)})), 23)
        self.assertEqual(touched(phrase, PLAN, {"title": " ".join("x" * 12)}, "title"), tuple(range(12)))
        self.assertEqual(anchors(phrase, PLAN, {"title": " ".join("x" * 7)}), [])


class Scores(unittest.TestCase):

    def plain_score(self, query, papers, index):
        told = {}
        for leaf in leaves_of(query):
            if isinstance(leaf, (Every, Never)):
                continue
            counts = [plain_count(leaf, paper) for paper in papers]
            lengths = [len(PLAN.tokens(leaf.field, paper[leaf.field])) if leaf.field in paper else 0 for paper in papers]
            told[leaf.told] = None
            if counts[index]:
                share = SCORING.score(len(papers), sum(count > 0 for count in counts), sum(lengths), lengths[index], counts[index])
                told[leaf.told] = Fraction(share.top, share.bottom)
        return score(query, told) or Fraction(0)

    def test_trees(self):
        pick = random.Random(3)
        above = 0
        for _ in range(400):
            papers = [drawn_paper(pick) for _ in range(pick.randint(1, 4))]
            query = drawn_query(pick, 3)
            for index in range(len(papers)):
                found = score_of(query, PLAN, papers, index, SCORING)
                self.assertEqual(Fraction(found.top, found.bottom), self.plain_score(query, papers, index))
                above += found.top > 0
        self.assertGreater(above, 50)

    def test_errors_in_their_order(self):
        nine = Phrase("title", "a b c d e f g h i")
        wide = Both([nine, Exact("zz", "a"), Exact("yy", "a")])
        bad = {"title": "a", "xx": "", "ww": ""}
        for query, paper, name in ((wide, bad, "yy"), (nine, bad, "ww"), (Exact("body", "a"), bad, "ww")):
            for call in (lambda: holds(query, PLAN, paper), lambda: anchors(query, PLAN, paper),
                         lambda: count_of(query, PLAN, paper), lambda: touched(query, PLAN, paper, "qq"),
                         lambda: score_of(query, PLAN, [{}, paper, {"aa": ""}], 9, SCORING)):
                with self.assertRaises(NoField) as held:
                    call()
                self.assertEqual(held.exception.name, name)
        for call in (lambda: holds(Both([Every(), nine]), PLAN, {}), lambda: anchors(nine, PLAN, {}),
                     lambda: count_of(nine, PLAN, {}), lambda: touched(nine, PLAN, {}, "title"),
                     lambda: score_of(Without(nine), PLAN, [{}], None, SCORING)):
            with self.assertRaises(TooMany) as held:
                call()
            self.assertEqual((held.exception.what, held.exception.many, held.exception.limit), ("places", 9, 8))
        with self.assertRaises(TooMany) as held:
            holds(Both([Phrase("title", "a b c d e f g h i j"), nine]), PLAN, {})
        self.assertEqual(held.exception.many, 10)
        self.assertFalse(holds(Phrase("title", "a b c d e f g h of"), PLAN, {}))
        for value in (-1, 2, None, True, "0", 0.0, (0,)):
            with self.assertRaises(BadNumber) as held:
                score_of(Every(), PLAN, [{}, {}], value, SCORING)
            self.assertEqual((held.exception.what, held.exception.number), ("index", value))
        self.assertEqual(score_of(Never(), PLAN, [{}], 0, SCORING), Share(0))
        self.assertEqual(score_of(Flat(Every(), Share(7, 2)), PLAN, [{}], 0, SCORING), Share(7, 2))


if __name__ == "__main__":
    unittest.main()
