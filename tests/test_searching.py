"""[113] to [115]: walks and searchers, held against the plain look over all living papers."""

import random
import unittest
from fractions import Fraction

from tests.test_plainlook import PLAN, drawn_leaf, drawn_paper, drawn_query
from wordquarry.best import best
from wordquarry.disks import Disk
from wordquarry.errors import BadNumber, NoField, NoPaper, TooMany
from wordquarry.joins import all_of, any_of, at_least, barred, numbers_left
from wordquarry.mergerules import MergeRule
from wordquarry.passing import Part
from wordquarry.plainlook import count_of, holds, score_of
from wordquarry.postings import PostingList
from wordquarry.queries import (Best, Both, Every, Exact, Flat, Matching, Never, Phrase, Some, Weighed, Without,
                                leaves_of)
from wordquarry.readers import Reader
from wordquarry.scorings import Scoring
from wordquarry.searching import Searcher
from wordquarry.segments import segment_of
from wordquarry.shares import Share
from wordquarry.stores import Store
from wordquarry.walks import Listed, leaf_counts, walked

SCORINGS = ("(papers + 1 over having) times 2*count over count + long + 1/3", "count over count + long", "ratio times count over 1",
            "steps times count over count + 1", "1 over 1", "count over long", "long over count", "3*count + long over count",
            "(papers + 1 over having) times 2*count + 1 over count + long + 1/3")
# With a small long the last one falls by the count; those with long above grow by the length.
PASSABLE = ("(papers + 1 over having) times 2*count over count + long + 1/3", "count over count + long", "ratio times count over 1",
            "steps times count over count + 1", "1 over 1", "count over long")


def drawn_store(pick, most=14):
    store = Store(Disk(), PLAN, rule=MergeRule("levels 1 2\nmerge 2"))
    for at in range(pick.randint(0, most)):
        store.put("k{}".format((at * 7) % 31), drawn_paper(pick))
        way = pick.random()
        if way < 0.3:
            store.flush()
        elif way < 0.45:
            store.drop(pick.choice(store.all_papers()))
        elif way < 0.55:
            store.exchange(pick.choice(store.all_papers()), drawn_paper(pick))
        elif way < 0.6:
            store.merge()
    return store


def living(reader):
    return [reader.paper(place) for place in reader.places]


class Walks(unittest.TestCase):

    def test_listed(self):
        pick = random.Random(1)
        for _ in range(150):
            numbers = sorted(pick.sample(range(20), pick.randint(0, 9)))
            cursor = Listed(pick.choice((list, tuple))(numbers))
            left = list(numbers)
            for _ in range(8):
                self.assertEqual(cursor.number, left[0] if left else None)
                if pick.random() < 0.5:
                    self.assertIsNone(cursor.go_on())
                    left = left[1:]
                else:
                    to = pick.randint(0, 22)
                    self.assertIsNone(cursor.advance(to))
                    left = [number for number in left if number >= to]
            for to in (-1, None, True, "0", 1.0):
                with self.assertRaises(BadNumber) as held:
                    cursor.advance(to)
                self.assertEqual((held.exception.what, held.exception.number), ("to", to))

    def test_listed_in_joins(self):
        pick = random.Random(2)
        for _ in range(120):
            rows = [sorted(pick.sample(range(15), pick.randint(0, 9))) for _ in range(3)]
            listed = lambda: [Listed(row) for row in rows]
            sets = [set(row) for row in rows]
            self.assertEqual(numbers_left(all_of(listed())), sorted(sets[0] & sets[1] & sets[2]))
            self.assertEqual(numbers_left(any_of(listed())), sorted(sets[0] | sets[1] | sets[2]))
            self.assertEqual(numbers_left(barred(*listed()[:2])), sorted(sets[0] - sets[1]))
            self.assertEqual(numbers_left(at_least(2, listed())), [number for number in range(15) if sum(number in one for one in sets) > 1])

    def test_segments(self):
        pick = random.Random(3)
        for _ in range(120):
            papers = [("k%d" % at, drawn_paper(pick)) for at in range(pick.randint(0, 7))]
            segment = segment_of(papers, PLAN)
            leaf = drawn_leaf(pick)
            wanted = {at: count_of(leaf, PLAN, paper) for at, (_, paper) in enumerate(papers)}
            found = leaf_counts(leaf, segment, PLAN)
            self.assertIsInstance(found, dict)
            self.assertEqual(found, {at: many for at, many in wanted.items() if many}, leaf.told)
            query = drawn_query(pick, 3)
            cursor = walked(query, segment, PLAN)
            numbers = [at for at, (_, paper) in enumerate(papers) if holds(query, PLAN, paper)]
            self.assertEqual(cursor.number, numbers[0] if numbers else None)
            to = pick.randint(0, 8)
            cursor.advance(to)
            self.assertEqual(numbers_left(cursor), [number for number in numbers if number >= to], query.told)
            self.assertEqual(numbers_left(any_of([walked(query, segment, PLAN), Listed([99])])), numbers + [99])


class Searching(unittest.TestCase):

    def check(self, reader, scoring, query, pick):
        papers = living(reader)
        dicts = [paper for _, paper in papers]
        searcher = Searcher(reader, PLAN, scoring)
        finding = [at for at in range(len(papers)) if holds(query, PLAN, dicts[at])]
        where = (query.told, papers)
        self.assertEqual(searcher.found(query), [papers[at][0] for at in finding], where)
        rows = [(papers[at][0], score_of(query, PLAN, dicts, at, scoring)) for at in finding]
        ranked = sorted(range(len(rows)), key=lambda at: (-Fraction(rows[at][1].top, rows[at][1].bottom), at))
        for k in (1, 2, len(papers) + 5, 10 ** 40):
            told = searcher.best(query, k)
            self.assertIsInstance(told, list)
            self.assertEqual([(key, score.written()) for key, score in told], [(rows[at][0], rows[at][1].written()) for at in ranked[:k]], where)
        for at, (key, paper) in enumerate(papers):
            score = score_of(query, PLAN, dicts, at, scoring)
            self.assertEqual(searcher.score(query, key), score)
            self.assertEqual(searcher.why(query, key), self.reasons(query, dicts, at, scoring))

    def reasons(self, query, papers, at, scoring):
        below = getattr(query, "queries", None) or ((query.query,) if hasattr(query, "query") else ())
        return (query.told, holds(query, PLAN, papers[at]), score_of(query, PLAN, papers, at, scoring),
                tuple(self.reasons(one, papers, at, scoring) for one in below))

    def test_against_the_plain_look(self):
        pick = random.Random(4)
        for _ in range(70):
            store = drawn_store(pick)
            reader = store.reader()
            self.check(reader, Scoring(pick.choice(SCORINGS)), drawn_query(pick, 3), pick)
            if pick.random() < 0.3 and store.all_papers():
                # readers of earlier moments
                before = living(reader)
                store.drop(store.all_papers()[0])
                store.put("new", {"title": "a b"})
                store.flush()
                store.merge()
                self.assertEqual(living(reader), before)
                self.check(reader, Scoring(pick.choice(SCORINGS)), drawn_query(pick, 2), pick)
                self.check(store.reader(), Scoring(pick.choice(SCORINGS)), drawn_query(pick, 2), pick)

    def single(self, pick):
        leaf = lambda: Exact(pick.choice(PLAN.fields), pick.choice(("a", "b", "c", "as", "zz")))
        one = lambda: leaf() if pick.random() < 0.5 else Weighed(leaf(), pick.choice((2, Share(1, 3))))
        return one() if pick.random() < 0.3 else Some([one() for _ in range(pick.randint(1, 4))])

    def test_single_words(self):
        pick = random.Random(5)
        passed = 0
        for _ in range(150):
            reader = drawn_store(pick, 30).reader()
            query = self.single(pick)
            scoring = Scoring(pick.choice(SCORINGS))
            self.check(reader, scoring, query, pick)
            searcher = Searcher(reader, PLAN, scoring)
            for k in (1, 2, 5):
                told = searcher.worked_out(query, k)
                if scoring.told not in [Scoring(text).told for text in PASSABLE]:
                    self.assertIsNone(told)
                    continue
                wanted = self.plain_worked_out(reader, query, scoring, k)
                self.assertEqual(told, wanted, query.told)
                passed += told[0] < told[1]
        self.assertGreater(passed, 5)

    def plain_worked_out(self, reader, query, scoring, k):
        dicts = [paper for _, paper in living(reader)]
        looked = pairs = 0
        for segment, alive, _ in reader.segments:
            parts = []
            for one in query.queries if isinstance(query, Some) else [query]:
                leaf = one if isinstance(one, Exact) else one.query
                rows = [(number, tuple(sorted({token[1] for token in PLAN.tokens(leaf.field, segment.paper(number)[1][leaf.field])
                                               if token[0] == leaf.word})))
                        for number in alive if leaf.field in segment.paper(number)[1]]
                rows = [(number, places) for number, places in rows if places]
                lengths = segment.lengths_of(leaf.field)
                having = sum(count_of(leaf, PLAN, paper) > 0 for paper in dicts)
                total = sum(len(PLAN.tokens(leaf.field, paper[leaf.field])) for paper in dicts if leaf.field in paper)

                def score(count, length, having=having, total=total, one=one):
                    return scoring.score(len(dicts), having, total, length, count) * (one.weight if isinstance(one, Weighed) else 1)

                parts.append(Part(PostingList(rows, lengths), score))
                pairs += len(rows)
            looked += len(best(parts, k).looked)
        return looked, pairs

    def test_queries_of_other_kinds(self):
        searcher = Searcher(drawn_store(random.Random(6)).reader(), PLAN, Scoring("count over count + long"))
        one = Exact("title", "a")
        for query in (Every(), Never(), Phrase("title", "a"), Matching("title", drawn_matching()), Both([one]), Best([one, one]), Without(one),
                      Flat(one, 2), Weighed(Weighed(one, 2), 3), Some([one, one], 2), Some([one, Flat(one, 1)]), Some([Some([one])]),
                      Weighed(Some([one]), 2)):
            self.assertIsNone(searcher.worked_out(query, 3), query.told)
        for query in (one, Weighed(one, 2), Some([one]), Some([one, Weighed(one, 2), one])):
            self.assertIsNotNone(searcher.worked_out(query, 3), query.told)
        self.assertEqual(Searcher(Reader([], PLAN.fields), PLAN, Scoring("count over long")).worked_out(one, 1), (0, 0))

    def test_errors_in_their_order(self):
        store = Store(Disk(), PLAN)
        store.put("k", {"title": "a"})
        searcher = Searcher(store.reader(), PLAN, Scoring("count over count + long"))
        nine = Phrase("title", "a b c d e f g h i")
        ten = Phrase("title", "a b c d e f g h i j")
        lost = Both([nine, Exact("zz", "a"), Exact("yy", "a")])
        for ask in (lambda: searcher.found(lost), lambda: searcher.best(lost, None), lambda: searcher.score(lost, "no"), lambda: searcher.why(lost, "no"),
                    lambda: searcher.worked_out(lost, None)):
            with self.assertRaises(NoField) as held:
                ask()
            self.assertEqual(held.exception.name, "yy")
        for value in (0, -1, None, True, "1", 1.0, [1]):
            for ask in (lambda: searcher.best(nine, value), lambda: searcher.worked_out(nine, value), lambda: searcher.worked_out(Exact("title", "a"), value)):
                with self.assertRaises(BadNumber) as held:
                    ask()
                self.assertEqual((held.exception.what, held.exception.number), ("k", value))
        for ask in (lambda: searcher.score(nine, "no"), lambda: searcher.why(nine, "no")):
            with self.assertRaises(NoPaper) as held:
                ask()
            self.assertEqual(held.exception.key, "no")
        empty = Searcher(Store(Disk(), PLAN).reader(), PLAN, Scoring("count over count + long"))
        query = Some([Every(), Without(ten), nine])
        for ask in (lambda: searcher.found(query), lambda: searcher.best(query, 1), lambda: searcher.score(query, "k"), lambda: searcher.why(query, "k"),
                    lambda: empty.found(query), lambda: empty.best(query, 3)):
            with self.assertRaises(TooMany) as held:
                ask()
            self.assertEqual((held.exception.what, held.exception.many, held.exception.limit), ("places", 10, 8))
        self.assertIsNone(searcher.worked_out(nine, 1))
        self.assertEqual((empty.found(Every()), empty.best(Every(), 1)), ([], []))
        self.assertEqual(searcher.why(Flat(Exact("title", "b"), 3), "k"), ('[3]title:="b"', False, Share(0), (('title:="b"', False, Share(0), ()),)))

    def test_known_scores(self):
        store = Store(Disk(), PLAN)
        for key, text in (("k1", "a b"), ("k2", "a a"), ("k3", "b"), ("k4", "a")):
            store.put(key, {"title": text})
        searcher = Searcher(store.reader(), PLAN, Scoring("count over 1"))
        self.assertEqual(searcher.best(Exact("title", "a"), 2), [("k2", Share(2)), ("k1", Share(1))])
        self.assertEqual(searcher.best(Every(), 9), [(key, Share(0)) for key in ("k1", "k2", "k3", "k4")])
        self.assertEqual(searcher.score(Some([Exact("title", "a"), Weighed(Exact("title", "b"), 5)]), "k1"), Share(6))
        self.assertEqual(len(leaves_of(Every())), 1)


def drawn_matching():
    from wordquarry.patterntexts import pattern_of
    return pattern_of("'a'*")


if __name__ == "__main__":
    unittest.main()
