"""[22], [23]: plans."""

import unittest

from wordquarry.analyzers import Analyzer
from wordquarry.errors import BadWord, NoField, TooMany
from wordquarry.plans import Plan

PLAIN = Analyzer("cut all")
SMALL = Analyzer("cut letters\nfold capitals")
NAMES = [chr(97 + at) for at in range(13)]


class Plans(unittest.TestCase):

    def test_fields(self):
        plan = Plan({"title": SMALL, "body": PLAIN})
        self.assertEqual(plan.fields, ("body", "title"))
        self.assertIs(plan.analyzer_of("title"), SMALL)
        self.assertEqual(plan.tokens("title", "A-b"), [("a", 0, 0, 1), ("b", 1, 2, 3)])
        self.assertEqual(plan.tokens("body", "A-b"), [("A-b", 0, 0, 3)])
        self.assertEqual(Plan({"a": PLAIN}).fields, ("a",))
        self.assertEqual(Plan({name: PLAIN for name in NAMES[:12]}).fields, tuple(NAMES[:12]))

    def test_wrong_fields(self):
        for value in ({}, None, [("a", PLAIN)], {"A": PLAIN}, {"a": "cut all"}, {1: PLAIN}, {"": PLAIN},
                      {"a": PLAIN, "b": None}, "a", dict({name: PLAIN for name in NAMES}, b1=PLAIN)):
            with self.assertRaises(BadWord) as held:
                Plan(value)
            self.assertEqual(held.exception.what, "fields")
        with self.assertRaises(TooMany) as held:
            Plan({name: PLAIN for name in NAMES})
        error = held.exception
        self.assertEqual((error.what, error.many, error.limit), ("fields", 13, 12))

    def test_no_field(self):
        plan = Plan({"a": PLAIN})
        for name in ("b", "", None, ["a"]):
            for deed in (lambda: plan.analyzer_of(name), lambda: plan.tokens(name, None)):
                with self.assertRaises(NoField) as held:
                    deed()
                self.assertEqual(held.exception.name, name)
        with self.assertRaises(BadWord) as held:
            plan.tokens("a", None)
        self.assertEqual(held.exception.what, "text")

    def test_equal(self):
        one = Plan({"a": PLAIN, "b": SMALL})
        self.assertTrue(one == Plan({"b": Analyzer(SMALL.text), "a": PLAIN}))
        self.assertFalse(one == Plan({"a": PLAIN}) or one == Plan({"a": PLAIN, "b": PLAIN}))
        self.assertFalse(one == {"a": PLAIN, "b": SMALL})

    def test_copies(self):
        fields = {"a": PLAIN}
        plan = Plan(fields)
        fields["b"] = SMALL
        fields["a"] = SMALL
        self.assertEqual(plan.fields, ("a",))
        self.assertIs(plan.analyzer_of("a"), PLAIN)


if __name__ == "__main__":
    unittest.main()
