"""[100] to [103]: kinds of readers held against plain dicts, and parts that may go on."""

import itertools
import random
import unittest

from wordquarry.analyzers import Analyzer
from wordquarry.disks import Disk
from wordquarry.errors import BadNumber, BadRows, BadWord, NoField, NoPaper
from wordquarry.kinds import aside, branches, kinds, meeting, sure_first
from wordquarry.plans import Plan
from wordquarry.stores import Store

PLAN = Plan({name: Analyzer("cut all") for name in ("body", "colour", "size")})
TEXTS = ("", "red", "Red", "red ", "blue", "a/b")


def drawn_reader(pick):
    store = Store(Disk(), PLAN)
    for at in range(pick.randint(0, 12)):
        store.put("k%d" % at, {field: pick.choice(TEXTS) for field in PLAN.fields if pick.random() < 0.7})
        if pick.random() < 0.4:
            store.flush()
        if pick.random() < 0.2:
            store.drop(pick.choice(store.all_papers()))
    papers = {key: {field: store.text_of(key, field) for field in PLAN.fields if store.text_of(key, field) is not None} for key in store.all_papers()}
    return store.reader(), papers


def plain_kinds(papers, field):
    texts = [paper[field] for paper in papers if field in paper]
    return tuple(sorted(((text, texts.count(text)) for text in set(texts)), key=lambda row: (-row[1], row[0])))


def plain_meets(paper, choices, aside_from=None):
    return all(paper.get(field) in choices[field] for field in choices if field != aside_from)


class Kinds(unittest.TestCase):

    def test_against_dicts(self):
        pick = random.Random(1)
        for _ in range(150):
            reader, papers = drawn_reader(pick)
            keys = pick.sample(list(papers), pick.randint(0, len(papers)))
            choices = {field: tuple(pick.sample(TEXTS, pick.choice((0, 1, 2, 3, 6)))) for field in PLAN.fields if pick.random() < 0.6}
            for field in PLAN.fields:
                self.assertEqual(kinds(reader, keys, field), plain_kinds([papers[key] for key in keys], field))
            self.assertEqual(meeting(reader, tuple(keys), choices), [key for key in keys if plain_meets(papers[key], choices)])
            fields = pick.sample(PLAN.fields, pick.randint(0, 3))
            self.assertEqual(aside(reader, keys, choices, fields),
                             {field: plain_kinds([papers[key] for key in keys if plain_meets(papers[key], choices, field)], field) for field in fields})

    def test_errors(self):
        store = Store(Disk(), PLAN)
        store.put("k", {"size": "1"})
        reader = store.reader()
        for ask, name in ((lambda: kinds(reader, ["no"], "zz"), "zz"), (lambda: meeting(reader, ["no"], {"zz": (), "size": (), "yy": ()}), "yy"),
                          (lambda: aside(reader, ["no"], {"zz": ()}, ["yy"]), "zz"), (lambda: aside(reader, ["no"], {"size": ()}, ["zz", "yy"]), "zz")):
            with self.assertRaises(NoField) as held:
                ask()
            self.assertEqual(held.exception.name, name)
        for ask in (lambda: kinds(reader, ["k", "no", "nor"], "size"), lambda: meeting(reader, ["no", "nor"], {}),
                    lambda: aside(reader, ["no", "k"], {}, ["size"]), lambda: aside(reader, ["k", "no"], {"size": ()}, [])):
            with self.assertRaises(NoPaper) as held:
                ask()
            self.assertEqual(held.exception.key, "no")
        self.assertEqual(aside(reader, ["k"], {"size": ()}, ["size", "body"]), {"size": (("1", 1),), "body": ()})


class Branches(unittest.TestCase):

    def test_beginnings(self):
        pick = random.Random(2)
        for _ in range(300):
            texts = {"".join(pick.choice("ab//") for _ in range(pick.randint(0, 6))) for _ in range(pick.randint(0, 6))}
            rows = [(text, pick.randint(1, 9)) for text in pick.sample(sorted(texts), len(texts))]
            found = {}
            for text, many in rows:
                steps = text.split("/")
                for size in range(1, len(steps) + 1):
                    beginning = "/".join(steps[:size])
                    found[beginning] = found.get(beginning, 0) + many
            self.assertEqual(branches(rows, "/"), tuple(sorted(found.items())))
        self.assertEqual(branches((("a b", 2), ("a", 1), ("a\nb", 4)), " "), (("a", 3), ("a\nb", 4), ("a b", 2)))
        self.assertEqual(branches((("a b", 2), ("a", 1), ("a\nb", 4)), "\n"), (("a", 5), ("a\nb", 4), ("a b", 2)))
        self.assertEqual(branches((), "/"), ())
        for value in (None, "", "//", 3, "\t", "%", ["/"]):
            with self.assertRaises(BadWord) as held:
                branches([("a", 1)], value)
            self.assertEqual(held.exception.what, "sign")


def all_goings(rows, is_whole, texts, most):
    """All the ways in which a part may go on over some texts, as dicts, with numbers up to most."""
    told = dict(rows)
    if is_whole:
        return [told]
    free = [text for text in texts if text not in told]
    found = []
    for numbers in itertools.product(range(most + 1), repeat=len(free)):
        more = [(text, number) for text, number in zip(free, numbers) if number]
        if not rows or all((-number, text) > (-rows[-1][1], rows[-1][0]) for text, number in more):
            found.append({**told, **dict(more)})
    return found


class Sure(unittest.TestCase):

    def plain(self, parts, k, others, most):
        """Goes through all the ways of going on, with some texts that no part tells."""
        texts = sorted({text for rows, _ in parts for text, _ in rows})
        always, once = set(texts), set()
        for goings in itertools.product(*[all_goings(rows, is_whole, texts + others, most) for rows, is_whole in parts]):
            sums = {text: sum(going.get(text, 0) for going in goings) for text in texts + others}
            first = {text for text in texts if sum(sums[other] >= sums[text] for other in sums if other != text and sums[other]) < k}
            always &= first
            once |= first
        return tuple(sorted(always)), tuple(sorted(once - always))

    def test_against_all_goings(self):
        pick = random.Random(3)
        met = [0, 0, 0]
        for _ in range(220):
            parts = []
            for _ in range(pick.choice((1, 1, 2, 2))):
                chosen = pick.sample("abc", pick.randint(0, 3))
                rows = sorted(((text, pick.randint(1, 3)) for text in chosen), key=lambda row: (-row[1], row[0]))
                parts.append((tuple(rows[:pick.randint(0, 3)]), pick.random() < 0.5))
            k = pick.randint(1, 2)
            # more texts than k that no part tells, behind all others; numbers above all that are told
            found = sure_first(parts, k)
            self.assertEqual(found, self.plain(parts, k, ["x", "y"], 4 if len(parts) == 1 else 3) if self.may_be_told(parts) else found, (parts, k))
            for at in range(2):
                met[at] += len(found[at])
        self.assertTrue(met[0] > 30 and met[1] > 30)

    def may_be_told(self, parts):
        """Whether small numbers are enough: a part that tells nothing may go on with any."""
        return all(rows or is_whole for rows, is_whole in parts) or len(parts) == 1

    def test_known_parts(self):
        self.assertEqual(sure_first([], 1), ((), ()))
        self.assertEqual(sure_first([((), False)], 5), ((), ()))
        self.assertEqual(sure_first([((("a", 5), ("b", 3)), True)], 1), (("a",), ()))
        self.assertEqual(sure_first([[[["a", 5], ["b", 3]], True]], 2), (("a", "b"), ()))
        # equal numbers: neither is surely among the first one
        self.assertEqual(sure_first([((("a", 5), ("b", 5)), True)], 1), ((), ()))
        self.assertEqual(sure_first([((("a", 5), ("b", 5)), True)], 2), (("a", "b"), ()))
        # what is not told may be as many as the last row, behind its text
        self.assertEqual(sure_first([((("b", 5),), False)], 1), ((), ("b",)))
        self.assertEqual(sure_first([((("a", 6), ("b", 5)), False)], 1), (("a",), ()))
        self.assertEqual(sure_first([((("a", 6), ("b", 5)), False)], 2), (("a",), ("b",)))
        # ahead of the last text there is one less
        parts = [((("m", 4),), True), ((("z", 2),), False)]
        self.assertEqual(sure_first(parts, 1), (("m",), ()))
        parts = [((("m", 1), ("z", 1)), True), ((("n", 1),), False)]
        self.assertEqual(sure_first(parts, 1), ((), ("z",)))
        self.assertEqual(sure_first([((("a", 9),), True), ((), False)], 3), ((), ("a",)))
        self.assertEqual(sure_first([((("a", 9), ("b", 8)), True), ((), False)], 1), ((), ("a", "b")))
        great = 10 ** 30
        self.assertEqual(sure_first([((("a", great), ("b", great - 1)), False), ((("b", 1), ("a", 1)), False)][:1], 1), (("a",), ()))

    def test_wrong_rows(self):
        right = ((("a", 2), ("b", 2), ("", 1)), True)
        sure_first([right], 1)
        for rows in (None, 5, "ab", [5], [("a",)], [("a", 1, 2)], [("a", 0)], [("a", -1)], [("a", True)], [("a", "1")], [("a", None)], [(5, 1)],
                     [("a\t", 1)], [("a", 1), ("b", 2)], [("b", 1), ("a", 1)], [("a", 2), ("a", 1)], [("a", 1), ("a", 1)], {"a": 1}):
            for parts, index in (([(rows, True)], 0), ([right, (rows, False), (rows, True)], 1)):
                with self.assertRaises(BadRows) as held:
                    sure_first(parts, None)
                self.assertEqual(held.exception.index, index, rows)
        for value in (0, -1, None, True, "1", 1.0, [1]):
            with self.assertRaises(BadNumber) as held:
                sure_first([right], value)
            self.assertEqual((held.exception.what, held.exception.number), ("k", value))


if __name__ == "__main__":
    unittest.main()
