"""[93] to [95]: carry rules judged for all rows of deeds, held against all short rows."""

import random
import time
import unittest

from tests.plainledgers import PlainLedger, drawn_rule, near_plain
from wordquarry.carryjudge import keeps_promise, least_deeds, play_deeds, promises_kept
from wordquarry.carryrules import CarryRule, plain_carry
from wordquarry.errors import BadNumber, BadWord, NotMerging


class Truth(PlainLedger):
    """A plain ledger whose papers know whether they are true."""

    def put(self, key):
        PlainLedger.put(self, key)
        self.buffer[-1]["true"] = True
        self.truths.append([key, True, self.place])

    def drop(self, key):
        PlainLedger.drop(self, key)
        for truth in self.truths:
            truth[1] &= truth[0] != key

    def __init__(self, rule):
        PlainLedger.__init__(self, rule)
        self.truths = []

    def state(self):
        """All that matters of it, stamps by their order alone."""
        numbers = {self.clock} | {one["stamp"] for one in self.row} | {one["seen"] for one in self.row}
        numbers |= {stamp for stamp, _ in self.packs} | ({self.going[2]} if self.going else set())
        rank = {number: at for at, number in enumerate(sorted(numbers))}
        true = {place: is_true for _, is_true, place in self.truths}
        living = {paper["place"] for one in self.row for paper in one["papers"]} | {paper["place"] for paper in self.buffer}

        def told(papers):
            return tuple((paper["key"], true[paper["place"]], paper["marked"]) for paper in papers)

        rows = tuple((rank[one["stamp"]], rank[one["seen"]], told(one["papers"])) for one in self.row)
        going = (self.going[:2], rank[self.going[2]], tuple(self.going[3])) if self.going else ()
        lost = any(is_true and place not in living for place, is_true in true.items())
        return (rank[self.clock], rows, told(self.buffer), tuple(sorted(self.dropped)), tuple((rank[stamp], keys) for stamp, keys in self.packs),
                going, lost)

    def twin(self):
        other = Truth.__new__(Truth)
        other.__dict__.update(self.__dict__)
        other.row = [{**one, "papers": [dict(paper) for paper in one["papers"]]} for one in self.row]
        other.buffer = [dict(paper) for paper in self.buffer]
        other.dropped = set(self.dropped)
        other.packs = list(self.packs)
        other.truths = [list(truth) for truth in self.truths]
        return other

    def broken(self):
        """The promises that a view breaks by now."""
        living = {paper["place"] for one in self.row for paper in one["papers"] if not paper["marked"]}
        true = {place for _, is_true, place in self.truths if is_true}
        return [promise for promise, bad in (("gone", living - true), ("there", true - living)) if bad]


def deeds_from(ledger, keys):
    deeds = [(kind, key) for key in keys for kind in ("put", "drop", "exchange")] + [("flush",), ("view",)]
    if ledger.going:
        return deeds + [("end",), ("give_up",)]
    many = len(ledger.row)
    return deeds + [("begin", first, last - first) for first in range(many) for last in range(first + 1, many + 1)]


def shortest(rule, most, keys="a"):
    """For each promise the fewest deeds that break it, of all rows of up to so many deeds."""
    found = {}
    met = {Truth(rule).state()}
    layer = [Truth(rule)]
    for length in range(1, most + 1):
        further = []
        for ledger in layer:
            for deed in deeds_from(ledger, keys):
                if length == most and deed != ("view",):
                    continue
                after = ledger.twin()
                getattr(after, deed[0])(*deed[1:])
                if deed == ("view",):
                    for promise in after.broken():
                        found.setdefault(promise, length)
                if after.state() not in met and length < most:
                    met.add(after.state())
                    further.append(after)
        layer = further
        if len(found) == 2:
            break
    return found


class Judged(unittest.TestCase):

    def check(self, rule):
        kept = promises_kept(rule)
        told = {}
        for promise in ("gone", "there"):
            row = least_deeds(rule, promise)
            self.assertEqual(keeps_promise(rule, promise), row is None)
            self.assertEqual(promise in kept, row is None)
            if row is not None:
                told[promise] = len(row)
                self.assertIsInstance(row, tuple)
                self.assertEqual(row[-1], ("view",))
                living, true = play_deeds(rule, row)[-1]
                bad = set(living) - set(true) if promise == "gone" else set(true) - set(living)
                self.assertTrue(bad, (rule.text, row))
                for living, true in play_deeds(rule, row)[:-1]:
                    bad = set(living) - set(true) if promise == "gone" else set(true) - set(living)
                    self.assertFalse(bad, (rule.text, row))
        self.assertEqual(kept, tuple(promise for promise in ("gone", "there") if promise not in told))
        return told

    def test_all_short_rows(self):
        pick = random.Random(1)
        met = {}
        for turn in range(36):
            rule = drawn_rule(pick) if turn < 18 else near_plain(pick)
            most = 7 if turn in (5, 20, 21) else 5
            told = self.check(rule)
            found = shortest(rule, most)
            for promise in ("gone", "there"):
                met[promise, told.get(promise)] = True
                if promise in found:
                    self.assertLessEqual(told.get(promise, 99), found[promise], (promise, rule.text))
                if told.get(promise, 99) <= most and promise not in found:
                    # another key was needed to tell it so early
                    self.assertIn("b", {deed[1] for deed in least_deeds(rule, promise) if deed[0] in ("put", "drop")}
                                  | {"b" for deed in least_deeds(rule, promise) if deed == ("drop", "c")}, rule.text)
        self.assertGreater(len(met), 6)

    def test_rows_over_two_keys(self):
        pick = random.Random(2)
        for _ in range(14):
            rule = near_plain(pick)
            told = self.check(rule)
            found = shortest(rule, 5, "ab")
            for promise in ("gone", "there"):
                self.assertEqual(told.get(promise, 99) if told.get(promise, 99) <= 5 else None, found.get(promise), (promise, rule.text))

    def test_many_rules(self):
        pick = random.Random(3)
        lengths = {}
        begin = time.time()
        for turn in range(400):
            told = self.check(drawn_rule(pick) if turn % 2 else near_plain(pick))
            for promise in ("gone", "there"):
                lengths[promise, told.get(promise)] = lengths.get((promise, told.get(promise)), 0) + 1
        self.assertLess(time.time() - begin, 30)
        self.assertEqual({("gone", None), ("gone", 4), ("gone", 7), ("there", None), ("there", 2), ("there", 4), ("there", 7)} - set(lengths), set())

    def test_known_rules(self):
        plain = plain_carry().text
        self.assertEqual(promises_kept(plain_carry()), ("gone", "there"))
        for change, promise, many in ((("seen < packet", "seen is packet"), "gone", 4), (("seen < packet", "seen <= packet"), "there", 2),
                                      (("carry marks", "carry nothing"), "gone", 7), (("seen least carry", "seen now carry"), "gone", None),
                                      (("not merging", "merging"), "gone", 7), (("stamp least", "stamp next"), "gone", None)):
            rule = CarryRule(plain.replace(*change))
            row = least_deeds(rule, promise)
            if many is None:
                self.check(rule)
            elif row is not None:
                self.assertEqual(len(row), many, (change, row))
            else:
                self.assertTrue(keeps_promise(rule, promise))
        rule = CarryRule(plain.replace("seen < packet", "seen <= packet"))
        self.assertIn(least_deeds(rule, "there"), ((("exchange", "a"), ("view",)),))

    def test_histories_of_kept_promises(self):
        """With a rule that keeps both, views tell just the true papers, in the order of their places."""
        pick = random.Random(4)
        rules = [plain_carry()]
        while len(rules) < 6:
            rule = near_plain(pick)
            if promises_kept(rule) == ("gone", "there"):
                rules.append(rule)
        for rule in rules:
            for _ in range(12):
                row = []
                plain = PlainLedger(rule)
                for _ in range(40):
                    deed = pick.choice(("put", "put", "drop", "exchange", "flush", "view", "begin", "end"))
                    told = (pick.choice("abc"),) if deed in ("put", "drop", "exchange") else ()
                    if deed == "begin":
                        told = (pick.randint(0, 3), pick.randint(1, 3))
                        if plain.going:
                            continue
                    try:
                        getattr(plain, deed)(*told)
                    except (NotMerging, BadNumber):
                        continue
                    row.append((deed,) + told)
                row.append(("view",))
                for living, true in play_deeds(rule, tuple(row)):
                    self.assertEqual(living, true)

    def test_played(self):
        self.assertEqual(play_deeds(plain_carry(), ()), ())
        row = (("view",), ("put", "a"), ("exchange", "b"), ("put", "a"), ("view",), ("drop", "a"), ("begin", 0, 1), ("put", "c"), ("end",), ("flush",),
               ("view",), ("begin", 0, 2), ("give up",), ("exchange", "b"), ("view",))
        self.assertEqual(play_deeds(plain_carry(), row), (((), ()), ((1, 2, 3), (1, 2, 3)), ((2, 5), (2, 5)), ((5, 6), (5, 6))))

    def test_other_values(self):
        for value in ("", "Gone", None, 1, True, [], {}, ("gone",), ["there"]):
            for ask in (keeps_promise, least_deeds):
                with self.assertRaises(BadWord) as held:
                    ask(plain_carry(), value)
                self.assertEqual(held.exception.what, "promise")


if __name__ == "__main__":
    unittest.main()
