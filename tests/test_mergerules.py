"""[85], [86]: rules of merging, held against all rows of flushes of few papers."""

import random
import unittest

from wordquarry.errors import BadNumber, BadText, TooMany
from wordquarry.mergerules import (MergeRule, most_rewritings, most_segments, rewritings_row, segments_row,
                                   settled_sizes)


def bad(text):
    try:
        MergeRule(text)
    except BadText as told:
        return told.line, told.column
    return None


def rule_of(base, factor, many, cap=None, dead=None):
    lines = ["levels {} {}".format(base, factor), "merge {}".format(many)]
    if cap is not None:
        lines.append("cap {}".format(cap))
    if dead is not None:
        lines.append("dead {} {}".format(*dead))
    return MergeRule("\n".join(lines))


def rows_of(papers):
    """All rows of flushes with so many papers."""
    if papers == 0:
        yield ()
    for size in range(1, papers + 1):
        for rest in rows_of(papers - size):
            yield (size,) + rest


def level_of(size, base, factor, cap):
    if cap is not None and size > cap:
        return None
    return max(k for k in range(200) if k == 0 or size >= base * factor ** k)


def played(rule, row):
    """The sizes behind a row of flushes, and how often each flush was merged."""
    segments, times = [], [0] * len(row)
    for at, size in enumerate(row):
        segments.append((size, [at]))
        while True:
            choice = rule.choice([(one, 0) for one, _ in segments])
            if choice is None:
                break
            first, many = choice
            lots = segments[first:first + many]
            for _, flushes in lots:
                for one in flushes:
                    times[one] += 1
            segments[first:first + many] = [(sum(one for one, _ in lots), [one for _, flushes in lots for one in flushes])]
    return tuple(size for size, _ in segments), times


class Texts(unittest.TestCase):

    def test_forms(self):
        for text in ("levels 1 2\nmerge 2", "levels 10 20\nmerge 20\ncap 1", "levels 3 2\nmerge 5\ndead 1 1",
                     "levels 1 3\nmerge 3\ncap 100\ndead 2 7", "levels {0} {0}\nmerge 9\ncap {0}\ndead {0} {0}".format("9" * 30)):
            self.assertIsNone(bad(text), text)
            self.assertEqual(MergeRule(text).text, text)
            self.assertEqual(MergeRule(text), MergeRule(text))
        self.assertNotEqual(MergeRule("levels 1 2\nmerge 2"), MergeRule("levels 1 3\nmerge 2"))
        self.assertNotEqual(MergeRule("levels 1 2\nmerge 2"), "levels 1 2\nmerge 2")

    def test_wrong_signs(self):
        head = "levels 1 3\nmerge 3"
        for text, place in (("", (1, 1)), ("l", (1, 2)), ("levels", (1, 7)), ("levels ", (1, 8)), ("level 1 2", (1, 6)), ("lexels 1 2", (1, 3)),
                            ("levels  1 2", (1, 8)), ("levels x 2", (1, 8)), ("levels 0 2", (1, 8)), ("levels 01 2", (1, 8)),
                            ("levels {} 2".format("1" * 31), (1, 8)), ("levels 1", (1, 9)), ("levels 1 ", (1, 10)), ("levels 1\nmerge 3", (1, 9)),
                            ("levels 1 1", (1, 10)), ("levels 1 0", (1, 10)), ("levels 5 {}\nmerge 3".format("9" * 31), (1, 10)),
                            ("levels 1 3", (2, 1)), ("levels 1 3x", (1, 11)), ("levels 1 3 ", (1, 11)), ("levels 1 3\n", (2, 1)),
                            ("levels 1 3\ncap 3", (2, 1)), ("levels 1 3\nmerge", (2, 6)), ("levels 1 3\nmerge ", (2, 7)),
                            ("levels 1 3\nmerge 1", (2, 7)), ("levels 1 3\nmerge 21", (2, 7)), ("levels 1 3\nmerge 02", (2, 7)),
                            ("levels 1 3\nmerge 3 ", (2, 8)), (head + "\n", (3, 1)), (head + "\nmerge 3", (3, 1)), (head + "\ncup", (3, 2)),
                            (head + "\ncap", (3, 4)), (head + "\ncap 0", (3, 5)), (head + "\ncap 5\n", (4, 1)), (head + "\ncap 5\ncap 5", (4, 1)),
                            (head + "\ndead", (3, 5)), (head + "\ndead 1", (3, 7)), (head + "\ndead 0 1", (3, 6)), (head + "\ndead 1 ", (3, 8)),
                            (head + "\ndead 3 2", (3, 8)), (head + "\ndead 3 {}".format("9" * 31), (3, 8)), (head + "\ndead 1 2\n", (3, 9)),
                            (head + "\ndead 1 2\ncap 5", (3, 9)), (head + "\ncap 5\ndead 2 1", (4, 8)), (head + "\ncap 5x", (3, 6)),
                            (head + "\ncap 5\ndead 1 2x", (4, 9)), ("levels 1 3\rmerge 3", (1, 11)), (None, (1, 1)), (7, (1, 1))):
            self.assertEqual(bad(text), place, text)

    def test_levels(self):
        for base, factor in ((1, 2), (3, 2), (10, 10), (7, 3)):
            for cap in (None, 1, 20, 999):
                rule = rule_of(base, factor, 2, cap)
                edges = {base * factor ** k + step for k in range(4) for step in (-1, 0, 1)} | {1, 2, 19, 20, 21, 998, 999, 1000}
                for size in edges - {-1, 0}:
                    self.assertEqual(rule.level(size), level_of(size, base, factor, cap), (size, rule.text))
        self.assertEqual(rule_of(1, 2, 2).level(2 ** 13000), 13000)
        self.assertEqual(rule_of(10 ** 29, 10 ** 29, 2).level(10 ** 58 - 1), 0)
        self.assertEqual(rule_of(10 ** 29, 10 ** 29, 2).level(10 ** 58), 1)

    def test_choices(self):
        pick = random.Random(1)
        for _ in range(1500):
            base, factor, many = pick.randint(1, 3), pick.randint(2, 3), pick.randint(2, 4)
            cap = pick.choice((None, None, 3, 8, 20))
            dead = pick.choice((None, (1, 1), (1, 2), (1, 4), (2, 3), (3, 10)))
            rule = rule_of(base, factor, many, cap, dead)
            rows = [(pick.choice((0, 1, 1, 2, 3, 5, 9, 30)), pick.choice((0, 0, 0, 1, 2, 5))) for _ in range(pick.randint(0, 8))]
            levels = [level_of(living, base, factor, cap) for living, _ in rows]
            wanted = None
            for at in range(len(rows) - many + 1):
                if len(set(levels[at:at + many])) == 1 and levels[at] is not None and wanted is None:
                    wanted = (at, many)
            for at, (living, marked) in enumerate(rows):
                if wanted is None and dead and marked and marked * dead[1] >= dead[0] * (living + marked):
                    wanted = (at, 1)
            self.assertEqual(rule.choice(rows), wanted, (rule.text, rows))
            sizes = [living for living, _ in rows]
            places = []
            while rule.choice([(size, 0) for size in sizes]) is not None:
                first, _ = rule.choice([(size, 0) for size in sizes])
                places.append(first)
                sizes[first:first + many] = [sum(sizes[first:first + many])]
            self.assertEqual(settled_sizes(rule, [living for living, _ in rows]), (tuple(sizes), tuple(places)))
        self.assertIsNone(rule_of(1, 2, 2, None, (1, 2)).choice([(1, 0), (5, 4)]))
        self.assertEqual(rule_of(1, 2, 2, None, (1, 2)).choice([(1, 0), (5, 5)]), (1, 1))
        self.assertEqual(rule_of(1, 2, 2, 2, (1, 2)).choice([(0, 3), (1, 0), (1, 1)]), (0, 2))
        self.assertEqual(rule_of(1, 2, 2, None, (1, 1)).choice([(9, 0), (0, 3), (9, 0)]), (1, 1))
        self.assertEqual(settled_sizes(rule_of(1, 3, 3), (1,) * 10), ((9, 1), (0, 1, 2, 0)))
        self.assertEqual(settled_sizes(rule_of(1, 3, 3), [1] * 5000)[0], (2187, 2187, 243, 243, 81, 27, 27, 3, 1, 1))


class Flushes(unittest.TestCase):

    def test_all_rows_of_few_papers(self):
        for base in (1, 2, 3, 6):
            for factor in (2, 3):
                for many in (2, 3, 4):
                    for cap in (None, 1, 2, 3, 5):
                        rule = rule_of(base, factor, many, cap, (1, 2))
                        for papers in range(9):
                            results = [played(rule, row) for row in rows_of(papers)]
                            where = (rule.text, papers)
                            segments = max(len(sizes) for sizes, _ in results)
                            rewritings = max([0] + [max(times) for _, times in results if times])
                            self.assertEqual(most_segments(rule, papers), segments, where)
                            self.assertEqual(most_rewritings(rule, papers), rewritings, where)
                            row = segments_row(rule, papers)
                            self.assertEqual((sum(row), len(played(rule, row)[0])), (papers, segments), where)
                            row = rewritings_row(rule, papers)
                            self.assertEqual((sum(row), (played(rule, row)[1] or [0])[0]), (papers, rewritings), where)
                            self.assertTrue(all(size > 0 for size in row))

    def test_more_papers(self):
        pick = random.Random(2)
        for _ in range(150):
            rule = rule_of(pick.randint(1, 4), pick.randint(2, 4), pick.randint(2, 6), pick.choice((None, None, 7, 40)))
            papers = pick.randint(10, 300)
            row = segments_row(rule, papers)
            self.assertEqual((sum(row), played(rule, row)[0]), (papers, row))
            self.assertEqual(len(row), most_segments(rule, papers))
            row = rewritings_row(rule, papers)
            self.assertEqual((sum(row), played(rule, row)[1][0]), (papers, most_rewritings(rule, papers)))
            for _ in range(6):
                row = []
                while sum(row) < papers:
                    row.append(min(pick.choice((1, 1, 2, 3, 8, 40)), papers - sum(row)))
                sizes, times = played(rule, row)
                self.assertLessEqual(len(sizes), most_segments(rule, papers))
                self.assertLessEqual(max(times), most_rewritings(rule, papers))

    def test_great_numbers(self):
        most = 10 ** 30 - 1
        self.assertEqual(most_segments(rule_of(1, 2, 2), most), 2 * (most // 3) + min(most % 3, 1))
        self.assertEqual(most_segments(rule_of(10 ** 30 - 1, 2, 20), most), 19)
        self.assertEqual(most_rewritings(rule_of(10 ** 30 - 1, 2, 2), most), most - 1)
        self.assertEqual(most_rewritings(rule_of(1, 2, 2), 2 ** 99), 99)
        self.assertEqual(most_rewritings(rule_of(1, 2, 2), 2 ** 99 - 1), 98)
        self.assertEqual(most_rewritings(rule_of(1, 2, 2, 2 ** 50), most), 51)
        self.assertEqual(rewritings_row(rule_of(1, 2, 2), 2 ** 10), (1, 1, 2, 4, 8, 16, 32, 64, 128, 256, 512))
        self.assertEqual((segments_row(rule_of(3, 2, 2), 0), rewritings_row(rule_of(3, 2, 2), 0)), ((), ()))

    def test_too_many(self):
        rule = rule_of(2, 3, 2)
        papers = min(papers for papers in range(5000) if most_segments(rule, papers) == 1000)
        self.assertEqual(len(segments_row(rule, papers)), 1000)
        papers = min(papers for papers in range(5000) if most_segments(rule, papers) == 1001)
        self.assertEqual(len(segments_row(rule, papers - 1)), 1000)
        with self.assertRaises(TooMany) as held:
            segments_row(rule, papers)
        self.assertEqual((held.exception.what, held.exception.many, held.exception.limit), ("segments", 1001, 1000))
        for many, papers in ((2, 1001), (4, 1002), (10, 1001), (10, 1009), (20, 1015)):
            rule = rule_of(10 ** 9, 2, many)
            merges = (papers - 1) // (many - 1)
            flushes = 1 + merges * (many - 1)
            self.assertEqual(most_rewritings(rule, papers), merges)
            if flushes <= 1000:
                self.assertEqual(sum(rewritings_row(rule, papers)), papers)
            else:
                with self.assertRaises(TooMany) as held:
                    rewritings_row(rule, papers)
                self.assertEqual((held.exception.what, held.exception.many, held.exception.limit), ("flushes", flushes, 1000))
        self.assertEqual(rewritings_row(rule_of(10 ** 9, 2, 2), 1000), (1,) * 1000)
        with self.assertRaises(TooMany):
            segments_row(rule_of(1, 2, 2), 10 ** 30 - 1)
        with self.assertRaises(TooMany):
            rewritings_row(rule_of(10 ** 29, 2, 20), 10 ** 29)

    def test_values_that_are_no_numbers(self):
        rule = rule_of(1, 2, 2)
        for ask in (most_segments, segments_row, most_rewritings, rewritings_row):
            for value in (-1, 10 ** 30, 10 ** 3000, True, False, None, "1", 1.0, [1]):
                with self.assertRaises(BadNumber) as held:
                    ask(rule, value)
                self.assertEqual(held.exception.what, "papers")
                self.assertIs(held.exception.number, value)


if __name__ == "__main__":
    unittest.main()
