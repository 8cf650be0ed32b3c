"""[3]: the errors."""

import unittest

from wordquarry import errors

FIELDS = {"BadText": ("line", "column"), "BadWord": ("what",), "BadNumber": ("what", "number"),
          "BadBytes": ("place",), "TooMany": ("what", "many", "limit"), "NoField": ("name",),
          "NoPaper": ("key",), "TakenKey": ("key",), "Broken": ("name",), "Crashed": (),
          "NotAscending": ("index",), "BadOutput": ("index",), "NoPlace": ("place",),
          "BadRows": ("index",), "BadLength": ("number",), "NoBlock": ("index",),
          "NoFile": ("name",), "BadCrash": ("what",), "TornFile": ("name",), "Merging": (),
          "NotMerging": (), "NothingToUndo": (), "NothingToRedo": (), "BadScoring": ("numbers",)}


class Errors(unittest.TestCase):

    def test_fields(self):
        values = (7, "x", None, [1], {"a": 2}, 10 ** 5000, object())
        for name, fields in FIELDS.items():
            for at in range(len(values)):
                told = [values[(at + k) % len(values)] for k in range(len(fields))]
                error = getattr(errors, name)(*told)
                for field, value in zip(fields, told):
                    self.assertIs(getattr(error, field), value)

    def test_classes(self):
        for name in FIELDS:
            kind = getattr(errors, name)
            self.assertEqual(kind.__bases__, (errors.SearchError,))
        self.assertEqual(errors.SearchError.__bases__, (ValueError,))
        self.assertIsInstance(errors.SearchError(), ValueError)

    def test_one_object_leaves_another_alone(self):
        one = errors.BadText(1, 2)
        errors.BadText(3, 4)
        self.assertEqual((one.line, one.column), (1, 2))

    def test_they_are_raised_and_caught(self):
        with self.assertRaises(ValueError):
            raise errors.TooMany("lines", 31, 30)
        with self.assertRaises(errors.SearchError):
            raise errors.Crashed()


if __name__ == "__main__":
    unittest.main()
