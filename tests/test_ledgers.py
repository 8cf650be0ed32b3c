"""[91], [92]: carry rules, and ledgers held against a plain one deed by deed."""

import itertools
import random
import unittest

from tests.plainledgers import APPLY, FORGET, PlainLedger, any_line, drawn_rule, near_plain
from wordquarry.carryrules import CarryRule, plain_carry
from wordquarry.errors import BadNumber, BadText, Merging, NotMerging
from wordquarry.ledgers import Ledger

PLAIN = """flush same
apply when seen < packet
begin apply
end wait
copy stamp least seen least carry marks
forget when not merging"""


def bad(text):
    try:
        CarryRule(text)
    except BadText as told:
        return told.line, told.column
    return None


def where(text, at):
    ahead = text[:at].split("\n")
    return len(ahead), len(ahead[-1]) + 1


class Rules(unittest.TestCase):

    def test_forms(self):
        self.assertEqual(plain_carry(), CarryRule(PLAIN))
        self.assertEqual(plain_carry().text, PLAIN)
        self.assertNotEqual(plain_carry(), CarryRule(PLAIN.replace("same", "next")))
        self.assertNotEqual(plain_carry(), PLAIN)
        lines = PLAIN.split("\n")
        self.assertIsNone(bad("\n".join(lines[:5])))
        self.assertIsNone(bad("\n".join(lines[:2] * 1 + lines[1:2] * 2 + lines[2:] + lines[5:] * 2)))
        for word in ("least", "greatest", "begun", "next"):
            self.assertIsNone(bad(PLAIN.replace("stamp least", "stamp " + word)))
        for word in ("least", "greatest", "begun", "now"):
            self.assertIsNone(bad(PLAIN.replace("seen least", "seen " + word)))

    def test_wrong_signs(self):
        five = "\n".join(PLAIN.split("\n")[:5])
        many = " and ".join(["seen < packet"] * 4)
        for text, place in (("", (1, 1)), ("flush", (1, 6)), ("flush ", (1, 7)), ("flush now", (1, 8)), ("flush samex", (1, 11)),
                            ("flush same", (1, 11)), ("flush same\n", (2, 1)), ("flush same ", (1, 11)), ("flush same\nbegin", (2, 1)),
                            ("flush same\napply when", (2, 11)), ("flush same\napply when ", (2, 12)), ("flush same\napply when merging", (2, 12)),
                            ("flush same\napply when not not", (2, 16)), ("flush same\napply when seen > packet", (2, 17)),
                            ("flush same\napply when seen <", (2, 18)), ("flush same\napply when seen <x", (2, 18)),
                            ("flush same\napply when seen isx", (2, 19)), ("flush same\napply when stamp < seen", (2, 20)),
                            ("flush same\napply when so", (2, 13)), ("flush same\napply when seen < packet or", (2, 26)),
                            ("flush same\napply when seen < packet and", (2, 29)), ("flush same\napply when seen < packet\nbegun", (3, 4)),
                            ("flush same\napply when " + many + " and", (2, len(many) + 12)), ("flush same\n\n", (2, 1)),
                            (PLAIN.replace("begin apply", "begin end"), (3, 7)), (PLAIN.replace("\nbegin", "\napply when seen < packet" * 3 + "\nbegin"), (5, 1)),
                            (PLAIN.replace("end wait", "end wail"), (4, 8)), (PLAIN.replace("end wait", "end waitx"), (4, 9)),
                            (PLAIN.replace("stamp least", "stamp now"), (5, 13)), (PLAIN.replace("seen least", "seen next"), (5, 24)),
                            (PLAIN.replace("marks", "mark"), (5, 39)), (PLAIN.replace("marks", "all"), (5, 35)), (five + " ", (5, 40)),
                            (five + "\n", (6, 1)), (five + "\nforget", (6, 7)), (five + "\nforget when seen < packet", (6, 13)),
                            (five + "\nforget when merging and", (6, 24)), (five + "\nforget when merging\n", (7, 1)),
                            (five + "\nforget when begun <= packed", (6, 27)), (five + "\nforget when merging" * 3 + "\n", (8, 20)),
                            (five + "\nforget when merging" * 3 + "\nforget", (8, 20)), (None, (1, 1)), (3, (1, 1)), (["flush same"], (1, 1))):
            self.assertEqual(bad(text), place, text)

    def test_signs_put_in(self):
        """A sign of no rule is wrong where it stands; a text cut off ends too early."""
        pick = random.Random(1)
        for _ in range(150):
            text = drawn_rule(pick).text
            at = pick.randint(0, len(text))
            self.assertEqual(bad(text[:at] + "~" + text[at:]), where(text, at), text)
            if at < text.index("carry ") + 10:
                self.assertEqual(bad(text[:at]), where(text, at), text[:at])

    def test_small_numbers(self):
        pick = random.Random(2)
        for _ in range(150):
            rule = drawn_rule(pick)
            for packet, stamp, seen in itertools.product(range(3), repeat=3):
                self.assertIs(rule.applies(packet, stamp, seen),
                              any_line(rule.text, "apply when ", {"stamp": stamp, "seen": seen, "packet": packet}))
            for packet, begun in itertools.product(range(3), (None, 0, 1, 2)):
                self.assertIs(rule.forgets(packet, begun), any_line(rule.text, "forget when ", {"begun": begun, "packet": packet}))
        lines = PLAIN.split("\n")
        for part in APPLY + ["not " + part for part in APPLY]:
            rule = CarryRule("\n".join(lines[:1] + ["apply when " + part] + lines[2:5]))
            for packet, stamp, seen in itertools.product(range(3), repeat=3):
                self.assertIs(rule.applies(packet, stamp, seen), any_line("x " + part, "x ", {"stamp": stamp, "seen": seen, "packet": packet}))
        for part in FORGET:
            for no in ("", "not "):
                rule = CarryRule("\n".join(lines[:5] + ["forget when " + no + part]))
                self.assertIs(rule.forgets(1, None), no == "not ")
        self.assertFalse(CarryRule("\n".join(lines[:5])).forgets(1, None))


class Ledgers(unittest.TestCase):

    def check(self, ledger, plain):
        self.assertEqual(ledger.segments, tuple(one["number"] for one in plain.row))
        self.assertEqual((ledger.clock, ledger.merging), (plain.clock, plain.going[:2] if plain.going else None))
        self.assertEqual(ledger.packets(), tuple(plain.packs))
        for one in plain.row:
            number = one["number"]
            self.assertEqual(ledger.keys_of(number), tuple(paper["key"] for paper in one["papers"]))
            self.assertEqual(ledger.places_of(number), tuple(paper["place"] for paper in one["papers"]))
            self.assertEqual(ledger.marks_of(number), tuple(at for at, paper in enumerate(one["papers"]) if paper["marked"]))
            self.assertEqual(ledger.stamps_of(number), (one["stamp"], one["seen"]))

    def test_deed_by_deed(self):
        pick = random.Random(3)
        met = set()
        for _ in range(250):
            rule = drawn_rule(pick) if pick.random() < 0.6 else near_plain(pick)
            ledger, plain = Ledger(rule), PlainLedger(rule)
            self.assertEqual((ledger.segments, ledger.merging, ledger.clock), ((), None, 0))
            for _ in range(pick.choice((0, 0, 1, 2))):
                keys = [pick.choice("abc") for _ in range(pick.randint(1, 3))]
                marks = pick.sample(range(len(keys)), pick.randint(0, len(keys)))
                self.assertEqual(ledger.open_segment(keys, marks), plain.open_segment(keys, marks))
                self.check(ledger, plain)
            for _ in range(30):
                deed = pick.choice(("put", "put", "put", "drop", "exchange", "flush", "flush", "view", "begin", "begin", "end", "give_up"))
                told = ()
                if deed in ("put", "drop", "exchange"):
                    told = (pick.choice("abc"),)
                if deed == "begin":
                    told = (pick.choice((0, 0, 1, 2, 5, -1, None, True, "0")), pick.choice((1, 1, 2, 3, 9, 0, None, True)))
                if deed == "give_up" and pick.random() < 0.7:
                    continue
                results = []
                for one in (ledger, plain):
                    try:
                        results.append(getattr(one, deed)(*told))
                    except (Merging, NotMerging) as error:
                        results.append(type(error))
                    except BadNumber as error:
                        results.append((error.what, str(error.number)))
                self.assertEqual(results[0], results[1], (rule.text, deed))
                met.add((deed, type(results[0])))
                self.check(ledger, plain)
        self.assertGreater(len(met), 12)

    def test_errors(self):
        ledger = Ledger(plain_carry())
        ledger.put("a")
        self.assertEqual(ledger.flush(), 1)
        for ask in (ledger.keys_of, ledger.places_of, ledger.marks_of, ledger.stamps_of):
            for value in (0, 2, -1, True, None, "1", 1.0, [1]):
                with self.assertRaises(BadNumber) as held:
                    ask(value)
                self.assertEqual((held.exception.what, held.exception.number), ("segment", value))
        for first, many, what in ((1, 1, "first"), (None, 0, "first"), (False, 1, "first"), (0, 0, "many"), (0, 2, "many"), (0, True, "many"),
                                  (0, "1", "many"), ([], 1, "first"), (0, None, "many")):
            with self.assertRaises(BadNumber) as held:
                ledger.begin(first, many)
            self.assertEqual((held.exception.what, held.exception.number), (what, first if what == "first" else many))
        for ask in (ledger.end, ledger.give_up):
            with self.assertRaises(NotMerging):
                ask()
        self.assertEqual(ledger.begin(0, 1), ((0,),))
        with self.assertRaises(Merging):
            ledger.begin(None, None)
        self.assertEqual(ledger.end(), 2)
        with self.assertRaises(BadNumber):
            ledger.keys_of(1)

    def test_known_deeds(self):
        ledger = Ledger(plain_carry())
        self.assertIsNone(ledger.flush())
        for key in "abcb":
            ledger.put(key)
        ledger.drop("a")
        ledger.exchange("b")
        self.assertEqual(ledger.flush(), 1)
        self.assertEqual((ledger.keys_of(1), ledger.places_of(1), ledger.packets(), ledger.clock), (("c", "b"), (3, 6), ((1, ("a", "b")),), 1))
        self.assertEqual(ledger.view(), ((1, (0, 1)),))
        self.assertEqual(ledger.packets(), ())
        ledger.drop("c")
        ledger.drop("b")
        self.assertEqual(ledger.begin(0, 1), ((0, 1),))
        self.assertIsNone(ledger.flush())
        self.assertEqual(ledger.end(), 2)
        self.assertEqual(ledger.view(), ((2, ()),))
        self.assertEqual(ledger.begin(0, 1), ((),))
        self.assertIsNone(ledger.end())
        self.assertEqual((ledger.segments, ledger.merging), ((), None))


if __name__ == "__main__":
    unittest.main()
