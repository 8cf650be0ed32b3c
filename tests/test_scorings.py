"""[67] to [71]: scorings, and what is decided of them for all numbers."""

import random
import unittest
from fractions import Fraction

from wordquarry.errors import BadNumber, BadScoring, BadText, BadWord
from wordquarry.rankings import falls_by_count, greatest, grows_by_length, ranked_apart
from wordquarry.scorings import Scoring

SMALL = ("0", "1", "2", "1/2", "3", "5/3")
GREAT = SMALL + ("999999999", "1/999999999", "100000/3")
GRID = [(papers, having, total, length, count) for papers in (1, 2, 3, 7) for having in range(1, papers + 1)
        for total in (1, 2, 3, 6, 20) for length in range(1, min(total, 6) + 1) for count in range(1, length + 1)]


def drawn_sum(pick, names, shares):
    text = ""
    for at in range(pick.randint(1, 4)):
        name, share = pick.choice(names), pick.choice(shares)
        term = pick.choice((share, name, name, share + "*" + name))
        text += (pick.choice(("-",) + ("",) * 9) if at == 0 else pick.choice((" + ", " + ", " + ", " - "))) + term
    return text


def drawn_text(pick):
    shares = pick.choice((SMALL, SMALL, GREAT))
    words = ["papers", "having"]
    rarity = pick.choice(("", "", "ratio times ", "steps times ",
                          "({} over {}) times ".format(drawn_sum(pick, words, shares), drawn_sum(pick, words, shares))))
    words = ["count", "long"]
    return rarity + drawn_sum(pick, words, shares) + " over " + drawn_sum(pick, words, shares)


def worth(text, numbers):
    total = Fraction(0)
    for term in text.replace(" - ", " + -").split(" + "):
        sign = -1 if term.startswith("-") else 1
        value = Fraction(1)
        for factor in term.lstrip("-").split("*"):
            value *= numbers[factor] if factor in numbers else Fraction(factor)
        total += sign * value
    return total


def plain_score(text, papers, having, total, length, count):
    """By the words of [67]; None if it goes wrong."""
    rarity = Fraction(1)
    if " times " in text:
        head, text = text.split(" times ")
        if head == "ratio":
            rarity = Fraction(papers, having)
        elif head == "steps":
            rarity = Fraction(max(k + 1 for k in range(200) if having << k <= papers))
        else:
            tops, bottoms = head[1:-1].split(" over ")
            bottom = worth(bottoms, {"papers": papers, "having": having})
            if bottom <= 0:
                return None
            rarity = worth(tops, {"papers": papers, "having": having}) / bottom
            if rarity < 0:
                return None
    above, below = text.split(" over ")
    numbers = {"count": count, "long": Fraction(length * papers, total)}
    if worth(below, numbers) <= 0:
        return None
    value = rarity * worth(above, numbers) / worth(below, numbers)
    return None if value < 0 else value


def sign(value):
    return (value > 0) - (value < 0)


class Texts(unittest.TestCase):

    def test_told(self):
        for text, told in (
                ("count over count + long + 1", "count over count + long + 1"), ("long - long + 1 over 1 + count", "1 over count + 1"),
                ("count - count over 1", "0 over 1"), ("2/4*count + 3*long + 4/2 over 1", "1/2*count + 3*long + 2 over 1"),
                ("1*count + 1*count over 0*long + 5", "2*count over 5"), ("1 + 1 over 2 - 1", "2 over 1"),
                ("ratio times 0 over 1", "ratio times 0 over 1"), ("steps times count over long", "steps times count over long"),
                ("(papers + 1 over having) times count over count + long + 1", "(papers + 1 over having) times count over count + long + 1"),
                ("(2 - having + 3*papers over having + having) times count - 1/2 over 1", "(3*papers - having + 2 over 2*having) times count - 1/2 over 1"),
                ("3/1*count + 0/5 over 1/1", "3*count over 1"), ("-1 + count over 1", "count - 1 over 1"), ("-3/6 + count over long - 0", "count - 1/2 over long"),
                ("(0 over 1) times -count - 2*long - 3 over 1", "(0 over 1) times -count - 2*long - 3 over 1"),
                ("(0 over 1) times -1/2*count over 1", "(0 over 1) times -1/2*count over 1")):
            self.assertEqual(Scoring(text).told, told)
            self.assertEqual(Scoring(told).told, told)
            self.assertEqual(Scoring(text), Scoring(told))
        one = Scoring("999999999*count + 999999999*count over 1")
        self.assertEqual(one.told, "1999999998*count over 1")
        with self.assertRaises(BadText):
            Scoring(one.told)
        self.assertFalse(Scoring("count over 1") == Scoring("2*count over 2"))
        self.assertFalse(Scoring("count over 1") == "count over 1")

    def test_wrong_texts(self):
        for text, column in (
                ("", 1), ("count", 6), ("count over", 11), ("count over ", 12), ("count over 1 ", 14), ("count ov 1", 9), (" count over 1", 1),
                ("Count", 1), ("count  over 1", 7), ("- count over 1", 2), ("--count over 1", 2), ("+count", 1), ("count - -1 over 1", 9),
                ("01 over 1", 2), ("1234567890 over 1", 10), ("1000000000 over 1", 10), ("1/1000000000 over 1", 12), ("1/0 over 1", 3), ("1/ over", 3), ("1/1234567890 over", 12), ("1/2/3", 4),
                ("1*2 over", 3), ("1 * count", 3), ("count*2 over 1", 6), ("1*papers", 3), ("papers over 1", 1), ("ratio count", 7),
                ("ratio times", 12), ("ratio time ", 11), ("rat", 4), ("ratios", 6), ("steps times ratio times 1 over 1", 13), ("s", 2),
                ("(papers) times", 8), ("(papers over having", 20), ("(papers over having times", 21), ("(papers over having)", 21),
                ("(count over 1)", 2), ("(papers over 1) times papers", 23), ("(papers over 1 over 1)", 16), ("()", 2), ("(1 over 1) over 1 over 1", 12),
                ("1 over 1 over 1", 10), ("1 + over 1", 5), ("1 over 1 + ", 12), ("1 over 1)", 9), ("1\nover 1", 2), ("0 over 00", 9)):
            with self.assertRaises(BadText) as held:
                Scoring(text)
            self.assertEqual((held.exception.line, held.exception.column), (1, column), text)
        with self.assertRaises(BadText) as held:
            Scoring("\n1 over 1")
        self.assertEqual((held.exception.line, held.exception.column), (1, 1))
        for value in (None, 5, "1 over 1%", ["1 over 1"], "\t"):
            with self.assertRaises(BadWord) as held:
                Scoring(value)
            self.assertEqual(held.exception.what, "text")

    def test_scores_and_wrong_numbers(self):
        pick = random.Random(1)
        right = 0
        for _ in range(1200):
            text = drawn_text(pick)
            try:
                scoring = Scoring(text)
            except BadScoring as error:
                papers, having, total, length, count = error.numbers
                self.assertTrue(1 <= having <= papers and 1 <= count <= length <= total)
                self.assertIsNone(plain_score(text, *error.numbers), text)
                continue
            right += 1
            for numbers in pick.sample(GRID, 20):
                found = scoring.score(*numbers)
                self.assertEqual(Fraction(found.top, found.bottom), plain_score(text, *numbers), text)
                self.assertEqual(plain_score(scoring.told, *numbers), plain_score(text, *numbers))
        self.assertGreater(right, 150)

    def test_wrong_for_great_or_small_numbers(self):
        for text in ("count over 999999999 - 1/999999999*long", "999999999 - 1/999999999*count over 1", "count - 1 - 1/999999999 over 1",
                     "count over count - 1", "count over count + long - 1 - 1/999999999", "count over 0", "count over 0*long",
                     "(999999999 - 1/999999999*having over 1) times count over 1", "(1 over 999999999 - 1/999999999*papers) times 1 over 1",
                     "(papers over papers - having) times 1 over 1", "(papers - having over 1) times 999999999 - 1/999999999*long over 1",
                     "(having - 1 over 1) times count - 3/2 over 1", "ratio times -1/999999999 over 1", "(papers - 2 over 1) times 1 over 1"):
            with self.assertRaises(BadScoring) as held:
                Scoring(text)
            self.assertIsNone(plain_score(text, *held.exception.numbers))
        for text in ("count over long", "count over count + long - 1", "count - 1 over 1", "(papers - having over 1) times count over 1",
                     "(0 over 1) times -count - long over 1", "(papers - 1 over having) times 1 over long", "0 over 1"):
            self.assertEqual(Scoring(text).told, text)


class Rankings(unittest.TestCase):

    def drawn(self, pick):
        while True:
            text = drawn_text(pick)
            try:
                return text, Scoring(text)
            except BadScoring:
                continue

    def test_by_count_and_by_length(self):
        pick = random.Random(2)
        for _ in range(250):
            text, scoring = self.drawn(pick)
            falls, grows = falls_by_count(scoring), grows_by_length(scoring)
            if falls is not None:
                papers, having, total, length, count = falls
                self.assertTrue(1 <= having <= papers and 1 <= count < length <= total)
                self.assertLess(plain_score(text, papers, having, total, length, count + 1), plain_score(text, *falls))
            if grows is not None:
                papers, having, total, length, count = grows
                self.assertTrue(1 <= having <= papers and 1 <= count <= length < total)
                self.assertGreater(plain_score(text, papers, having, total, length + 1, count), plain_score(text, *grows))
            for papers, having, total, length, count in pick.sample(GRID, 40):
                value = plain_score(text, papers, having, total, length, count)
                if falls is None and count < length:
                    self.assertGreaterEqual(plain_score(text, papers, having, total, length, count + 1), value, text)
                if grows is None and length < total:
                    self.assertLessEqual(plain_score(text, papers, having, total, length + 1, count), value, text)

    def test_far_away(self):
        for text, falls, grows in (
                ("count + 1 over count + 999999999", False, False), ("999999999*long + 1 over 999999999*long + count", True, True),
                ("count + 2/999999999*long over 999999999*count + long", True, True), ("1 over 1", False, False),
                ("(0 over 1) times long over count", False, False), ("(papers - having over 1) times long over count", True, True),
                ("count + 999999999 over 999999999*count + 1/999999999", True, False), ("ratio times count over long", False, False),
                ("count - 1 over count - 1 + long", False, False), ("count - 1 + 1/999999999*long over count", True, True),
                ("1/999999999*count + long + 999999999 over long + 999999998", False, False),
                ("long + 1 over long + count", True, True)):
            scoring = Scoring(text)
            for told, wanted in ((falls_by_count(scoring), falls), (grows_by_length(scoring), grows)):
                self.assertEqual(told is not None, wanted, (text, told))

    def test_greatest(self):
        pick = random.Random(3)
        for _ in range(200):
            text, scoring = self.drawn(pick)
            papers, total, most = pick.randint(1, 5), pick.randint(1, 8), pick.randint(1, 9)
            having, least = pick.randint(1, papers), pick.randint(1, total)
            score, length, count = greatest(scoring, papers, having, total, most, least)
            self.assertTrue(least <= length <= total and 1 <= count <= min(most, length))
            scores = [plain_score(text, papers, having, total, long, many) for long in range(least, total + 1)
                      for many in range(1, min(most, long) + 1)]
            self.assertEqual(Fraction(score.top, score.bottom), max(scores))
            self.assertEqual(scoring.score(papers, having, total, length, count), score)
        self.assertEqual(greatest(Scoring("count over long"), 1, 1, 10 ** 90, 10 ** 80, 1)[0], 10 ** 90)
        for value in (0, -1, None, True, "1", 1.0):
            with self.assertRaises(BadNumber) as held:
                greatest(scoring, 1, 1, 3, value, None)
            self.assertEqual((held.exception.what, held.exception.number), ("most", value))
        for value in (0, 4, None, True, "1", 1.0):
            with self.assertRaises(BadNumber) as held:
                greatest(scoring, 1, 1, 3, 10 ** 60, value)
            self.assertEqual((held.exception.what, held.exception.number), ("least", value))

    def test_ranked_apart(self):
        pick = random.Random(4)
        many = {True: 0, False: 0}
        for _ in range(300):
            text, one = self.drawn(pick)
            two = pick.choice((self.drawn(pick)[0], "ratio times " + text.split(" times ")[-1],
                               text.replace("ratio", "steps"), text.replace(" over ", " + 0 over ", 1)))
            try:
                other = Scoring(two)
            except BadScoring:
                continue
            apart = ranked_apart(one, other)
            self.assertEqual(ranked_apart(other, one) is None, apart is None)
            many[apart is None] += 1
            if apart is not None:
                self.check_apart(text, two, apart)
                continue
            for _ in range(40):
                papers, total = pick.randint(2, 6), pick.randint(2, 12)
                having, length = pick.randint(2, papers), pick.randint(1, total - 1)
                long = pick.randint(1, total - length)
                count, times = pick.randint(1, length), pick.randint(1, long)
                signs = [sign(plain_score(row, papers, having, total, length, count)
                              - plain_score(row, papers, having, total, long, times)) for row in (text, two)]
                self.assertEqual(signs[0], signs[1], (text, two))
        self.assertGreater(min(many.values()), 25)

    def check_apart(self, text, two, apart):
        papers, having, total, length, count, long, times = apart
        self.assertTrue(2 <= having <= papers and 1 <= count <= length and 1 <= times <= long and length + long <= total)
        signs = [sign(plain_score(row, papers, having, total, length, count)
                      - plain_score(row, papers, having, total, long, times)) for row in (text, two)]
        self.assertNotEqual(signs[0], signs[1], (text, two, apart))

    def test_known_pairs(self):
        for one, two, alike in (
                ("count over count + long", "count over long", True), ("count over long", "2*count + long over long", True),
                ("count over long + 1", "count over long", False), ("ratio times count over 1", "steps times 3*count + 1 over 2", True),
                ("count over 1", "1 over count", False), ("count over 1", "count + 1/999999999*long over 1", False),
                ("1 over 1", "ratio times long over long", True), ("1 over 1", "count over 1", False),
                ("1 over 1", "(0 over 1) times count over 1", True), ("count over 1", "(0 over 1) times count over 1", False),
                ("count over 1", "(papers - having over 1) times count over 1", False),
                ("(having - 1 over 1) times count over 1", "count over 1", True),
                ("(papers - 1 over 1) times count over 1", "count over 1", True),
                ("(papers - having over 3) times count over 1", "(5*papers - 5*having over having) times count over 1", True),
                ("(papers - having over 3) times 1 over 1", "1 over 2", True),
                ("count over long", "(papers - having over 1) times count over 1", False),
                ("(papers - having over 1) times count over 1", "count over long", False),
                ("count + 999999999 over long + 999999999", "count + 999999999 over long + 999999998", False),
                ("count - 1 over long", "2*count - 2 over 3*long", True), ("long over 1", "long + 5 over 7", True)):
            apart = ranked_apart(Scoring(one), Scoring(two))
            self.assertEqual(apart is None, alike, (one, two))
            if apart is not None:
                self.check_apart(one, two, apart)


if __name__ == "__main__":
    unittest.main()
