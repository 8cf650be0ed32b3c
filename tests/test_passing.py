"""[49] to [55]: parts, rules of passing, best papers, rules judged, what must be looked at."""

import random
import re
import unittest
from fractions import Fraction

from wordquarry.best import best, plain_best
from wordquarry.errors import BadNumber, BadText, NoPlace, TooMany
from wordquarry.layouts import Layout
from wordquarry.mustlook import lifted, must_look
from wordquarry.pairs import best_pairs, telling_score
from wordquarry.passing import Part, Rule
from wordquarry.passjudge import missed
from wordquarry.postings import PostingList
from wordquarry.shares import Share

WORDS = ("seen", "blocks", "lists", "parts")
WRONG_K = (0, -1, None, True, "1", 1.0)


def fraction(share):
    return Fraction(share.top, share.bottom)


def drawn_share(pick):
    return pick.choice(("1", "2", "3", "1/2", "3/2", "4/3", "2/3", "2/4", "5", "1/10", "1000000/999999"))


def drawn_condition(pick, words):
    left = pick.sample(words, len(words))
    terms = []
    for _ in range(pick.randint(1, 5)):
        if left and pick.random() < 0.7:
            word = left.pop()
            terms.append(word if pick.random() < 0.6 else drawn_share(pick) + " * " + word)
        else:
            terms.append(drawn_share(pick))
    if pick.random() < 0.7:
        head = [word for word in ("seen", "blocks") if word in words]
        terms = head + [term for term in terms if not re.search("seen|blocks", term)][:5 - len(head)]
    text = terms[0]
    for term in terms[1:]:
        text += pick.choice((" + ", " - ")) + term
    return text + pick.choice((" <= least", " < least", " behind least"))


def drawn_rule(pick):
    text = "papers " + pick.choice(("ascending", "descending", "by bounds"))
    if pick.random() < 0.5:
        text += "\nbounds {} by {}".format(pick.choice(("up", "down", "near")), drawn_share(pick))
    if pick.random() < 0.7:
        text += "\nahead: " + drawn_condition(pick, WORDS[1:])
    if pick.random() < 0.7:
        text += "\nbetween: " + drawn_condition(pick, WORDS)
    return Rule(text)


def drawn_parts(pick, rule=None):
    units = [Share(1), Share(1, 2), Share(1, 3), Share(1, 20)]
    if rule is not None and rule.rounding is not None:
        units += [rule.rounding[1], rule.rounding[1].over(2), rule.rounding[1].over(4)]
    parts = []
    for _ in range(pick.randint(0, 4)):
        numbers = sorted(pick.sample(range(8), pick.randint(0, 6)))
        layout = Layout(pick.choice(("blocks of 1", "blocks of 2", "blocks of 3", "blocks free to 3")))
        source = PostingList([(number, (0,)) for number in numbers], {number: 1 for number in numbers}, layout)
        parts.append(Part(source, [pick.choice(units) * pick.randint(0, 4) for _ in numbers]))
    if parts and pick.random() < 0.2:
        parts.append(parts[0])
    return parts


def rounded(bound, rounding):
    """By [52]: up, down or near to a multiple, half up."""
    value = fraction(bound)
    if rounding is None:
        return value
    unit = fraction(rounding[1])
    low = value // unit * unit
    if rounding[0] == "down" or low == value:
        return low
    if rounding[0] == "up":
        return low + unit
    return low + unit if value - low >= unit / 2 else low


def walked(parts, k, rule):
    """By the words of [52]: rows, looked, passed."""
    numbers = sorted({number for part in parts for number in part.source.numbers})
    having = {number: [at for at, part in enumerate(parts) if number in part.source] for number in numbers}

    def told(at, number):
        return rounded(parts[at].bound(number), rule.rounding)

    if rule.order == "descending":
        numbers = numbers[::-1]
    elif rule.order == "by bounds":
        numbers = sorted(numbers, key=lambda number: (-sum(told(at, number) for at in having[number]), number))
    done, looked, passed = [], [], []

    def holds(condition, number, seen, left):
        if condition is None or len(done) < k:
            return False
        score, other = done[k - 1]
        factors = [fraction(one) for one in condition[:5]]
        value = factors[0] * seen + factors[1] * sum(told(at, number) for at in left) + factors[3] * len(left) \
            + factors[2] * sum(rounded(parts[at].top, rule.rounding) for at in left) + factors[4]
        if condition[5] == "behind":
            return value < -score or value == -score and number > other
        return value < -score or value == -score and condition[5] == "<="

    for number in numbers:
        seen = Fraction(0)
        out = holds(rule.ahead, number, seen, having[number])
        for place, at in enumerate(having[number]):
            if out or place > 0 and holds(rule.between, number, seen, having[number][place:]):
                out = True
                break
            looked.append((number, at))
            seen += fraction(parts[at].score(number))
        if out:
            passed.append(number)
        else:
            done = sorted(done + [(-seen, number)])
    return [(number, -score) for score, number in done[:k]], sorted(looked), sorted(passed)


class Parts(unittest.TestCase):

    def test_told_scores(self):
        source = PostingList([(2, (1,)), (4, (1, 2)), (7, (3,))], {2: 5, 4: 6, 7: 7}, Layout("blocks of 2"))
        part = Part(source, [Share(1, 2), Share(3), Share(0)])
        self.assertEqual((part.source, part.bounds, part.top), (source, (Share(3), Share(0)), Share(3)))
        self.assertEqual([part.score(number) for number in (2, 4, 7)], [Share(1, 2), Share(3), Share(0)])
        self.assertEqual([part.bound(number) for number in (2, 4, 7)], [Share(3), Share(3), Share(0)])
        for value in (None, 3, True, "2", -1, 2.0, (2,), []):
            for ask in (part.score, part.bound):
                with self.assertRaises(NoPlace) as held:
                    ask(value)
                self.assertIs(held.exception.place, value)
        empty = Part(PostingList([], {}), ())
        self.assertEqual((empty.bounds, empty.top), ((), Share(0)))

    def test_wrong_scores(self):
        source = PostingList([(2, (1,)), (4, (1, 2))], {2: 5, 4: 6})
        for scores, what, number in (((), "scores", 0), ((Share(1),), "scores", 1), ((1, 2, 3), "scores", 3),
                                     ((Share(1), 2), "score", 2), ((Share(-1, 3), None), "score", Share(-1, 3)),
                                     ((Share(0), None), "score", None), (["1", 0], "score", "1")):
            with self.assertRaises(BadNumber) as held:
                Part(source, scores)
            self.assertEqual((held.exception.what, held.exception.number), (what, number))

    def test_functions(self):
        pick = random.Random(1)
        for _ in range(60):
            rows = [(number, tuple(range(pick.randint(1, 6)))) for number in range(12)]
            source = PostingList(rows, {number: pick.randint(6, 20) for number in range(12)}, Layout("blocks of 4"))
            asked = []

            def function(count, length):
                asked.append((count, length))
                return Share(count, length)

            part = Part(source, function)
            self.assertEqual(sorted(asked), sorted(pair for block in source.blocks for pair in block.pairs))
            for block, bound in zip(source.blocks, part.bounds):
                scores = [Share(len(places), source.length_of(number)) for number, places in rows
                          if block.first <= number <= block.last]
                self.assertEqual(fraction(bound), max(fraction(score) for score in scores))
            self.assertEqual(fraction(part.top), max(fraction(bound) for bound in part.bounds))
            self.assertEqual(part.score(5), Share(len(rows[5][1]), source.length_of(5)))
            for block in source.blocks:
                for pair in block.pairs:
                    self.assertEqual(Part(source, telling_score(pair)).bound(block.first), Share(1))
            self.assertEqual(best_pairs(source.blocks[0].pairs), source.blocks[0].pairs)


class Rules(unittest.TestCase):

    def test_attributes(self):
        rule = Rule("papers by bounds\nbounds near by 2/4\nahead: 1/2 + 3 * parts - lists behind least\n"
                    "between: 2/3 * seen + blocks - 5 - 1/2 <= least")
        self.assertEqual((rule.order, rule.rounding), ("by bounds", ("near", Share(1, 2))))
        self.assertEqual(rule.ahead, (Share(0), Share(0), Share(-1), Share(3), Share(1, 2), "behind"))
        self.assertEqual(rule.between, (Share(2, 3), Share(1), Share(0), Share(0), Share(-11, 2), "<="))
        plain = Rule("papers ascending")
        self.assertEqual((plain.text, plain.order, plain.rounding, plain.ahead, plain.between),
                         ("papers ascending", "ascending", None, None, None))
        self.assertEqual(Rule("papers descending\nbounds up by 1\nbetween: 1 < least").order, "descending")

    def test_equal(self):
        one = Rule("papers ascending\nbounds up by 2/4\nahead: 1 + blocks - 1/2 < least")
        self.assertEqual(one, Rule("papers ascending\nbounds up by 1/2\nahead: blocks + 2/4 < least"))
        for text in ("papers ascending", "papers descending\nbounds up by 1/2\nahead: blocks + 1/2 < least",
                     "papers ascending\nbounds up by 1/2\nahead: blocks + 1/2 <= least",
                     "papers ascending\nbounds down by 1/2\nahead: blocks + 1/2 < least",
                     "papers ascending\nbounds up by 1/2\nbetween: blocks + 1/2 < least",
                     "papers ascending\nbounds up by 1/2\nahead: lists + 1/2 < least"):
            self.assertFalse(one == Rule(text))
        self.assertFalse(one == one.text)

    def test_wrong_texts(self):
        head = "papers ascending\n"
        for text, line, column in (
                ("", 1, 1), ("papers", 1, 7), ("papers a", 1, 9), ("papers by  bounds", 1, 11), ("papers asc\n", 1, 11),
                ("Papers", 1, 1), (head, 2, 1), (head + "\n", 2, 1), (head + "b", 2, 2), (head + "be", 2, 3),
                (head + "bo", 2, 3), (head + "bounds to", 2, 8), (head + "bounds up by 0", 2, 14),
                (head + "bounds up by 1000001", 2, 20), (head + "bounds up by 10000000", 2, 21),
                (head + "bounds up by 1/", 2, 16), (head + "bounds up by 1/0", 2, 16), (head + "bounds up by -1", 2, 14),
                (head + "bounds up by 1\nbounds", 3, 2), (head + "bounds up by 1 ", 2, 15),
                (head + "bounds up by 1/2/3", 2, 17),
                (head + "ahead: seen", 2, 8), (head + "ahead: blocks + blocks", 2, 17), (head + "ahead:  blocks", 2, 8),
                (head + "ahead: blocks", 2, 14), (head + "ahead: blocks <", 2, 16), (head + "ahead: blocks = least", 2, 15),
                (head + "ahead: blocks <= leas", 2, 22), (head + "ahead: blocks <= least ", 2, 23),
                (head + "ahead: blocks <= least\nahead: blocks < least", 3, 1),
                (head + "between: blocks < least\nahead: blocks < least", 2, 24),
                (head + "between: seen + blocks + lists + parts + 1 + 1", 2, 44),
                (head + "between: seen + blocks + lists + parts + 2 * 1", 2, 44),
                (head + "ahead: blocks + lists + parts + 2 * 1", 2, 35),
                (head + "ahead: 1 + 1 + 1 + 1 + 1 + 1", 2, 26), (head + "ahead: 1 + 1 + 1 + 1 + 1 < leastt", 2, 33),
                (head + "ahead: 2*blocks", 2, 9), (head + "ahead: 2 *blocks", 2, 11), (head + "ahead: - blocks", 2, 8),
                (head + "ahead: 01", 2, 8), (head + "ahead: 0", 2, 8), (head + "ahead: 2 * seen", 2, 12),
                (head + "ahead: 2 * 2", 2, 12), (head + "ahead: blocks * 2", 2, 15), (head + "ahead: least", 2, 9),
                (head + "ahead: blocks <= least\nbetween: seen <= least\n", 3, 23)):
            with self.assertRaises(BadText) as held:
                Rule(text)
            self.assertEqual((held.exception.line, held.exception.column), (line, column), text)
        for value in (None, 5, b"papers ascending", ["papers ascending"]):
            with self.assertRaises(BadText) as held:
                Rule(value)
            self.assertEqual((held.exception.line, held.exception.column), (1, 1))

    def test_forms(self):
        for text in ("papers ascending\nahead: 1000000/1000000 * blocks <= least", "papers by bounds\nbetween: 1 < least",
                     "papers ascending\nahead: 1 + 2 - 3/4 + 5/1 + 6 behind least",
                     "papers ascending\nbetween: seen + 2 * blocks - lists + 3/2 * parts - 1000000 < least"):
            self.assertEqual(Rule(text).text, text)


class BestPapers(unittest.TestCase):

    def test_against_a_walk(self):
        pick = random.Random(2)
        for _ in range(700):
            rule = drawn_rule(pick)
            parts = drawn_parts(pick, rule)
            k = pick.choice((1, 1, 2, 3, 5, 9))
            found = best(tuple(parts), k, rule)
            rows, looked, passed = walked(parts, k, rule)
            self.assertEqual([(number, fraction(score)) for number, score in found.rows], rows)
            self.assertEqual((found.looked, found.passed), (tuple(looked), tuple(passed)))

    def test_without_a_rule(self):
        pick = random.Random(3)
        plain = Rule("papers by bounds\nahead: blocks behind least")
        for _ in range(300):
            parts = drawn_parts(pick)
            k = pick.choice((1, 2, 3, 5, 99))
            found = best(parts, k)
            self.assertEqual((found.rows, found.looked, found.passed),
                             (best(parts, k, plain).rows, best(parts, k, plain).looked, best(parts, k, plain).passed))
            scores = {}
            for part in parts:
                for number in part.source.numbers:
                    scores[number] = scores.get(number, 0) + fraction(part.score(number))
            wanted = sorted(scores, key=lambda number: (-scores[number], number))[:k]
            told = plain_best(parts, k)
            self.assertEqual([(number, fraction(score)) for number, score in told],
                             [(number, scores[number]) for number in wanted])
            self.assertEqual(list(found.rows), told)
            self.check_must_look(parts, k, found, scores)

    def check_must_look(self, parts, k, found, scores):
        chosen = [number for number, _ in found.rows]
        last = (-fraction(found.rows[-1][1]), chosen[-1]) if chosen else None
        wanted = []
        for number in sorted(scores):
            bound = sum(fraction(part.bound(number)) for part in parts if number in part.source)
            if number in chosen or (-bound, number) < last:
                wanted.append(number)
        told = must_look(parts, k)
        self.assertEqual(told, tuple(wanted))
        self.assertEqual(sorted(found.looked), sorted((number, at) for number in wanted for at in range(len(parts))
                                                      if number in parts[at].source))
        for number in list(range(9)) + [None, True, "1", 1.0, Share(3)]:
            if type(number) is int and number in wanted and number not in chosen:
                lift = lifted(parts, k, number)
                self.assertIn(number, [one for one, _ in plain_best(lift, k)])
                for one, other in zip(parts, lift):
                    self.assertEqual((one.source, one.bounds), (other.source, other.bounds))
                    for paper in one.source.numbers:
                        self.assertEqual(other.score(paper), one.bound(paper) if paper == number else one.score(paper))
            else:
                with self.assertRaises(NoPlace) as held:
                    lifted(parts, k, number)
                self.assertIs(held.exception.place, number)

    def test_wrong_k(self):
        for value in WRONG_K:
            for call in (lambda: best([], value), lambda: plain_best([], value), lambda: must_look([], value),
                         lambda: lifted([], value, None)):
                with self.assertRaises(BadNumber) as held:
                    call()
                self.assertEqual((held.exception.what, held.exception.number), ("k", value))
        self.assertEqual((plain_best([], 3), best((), 3).rows, must_look((), 1)), ([], (), ()))


class Judged(unittest.TestCase):

    def check(self, pick, rule):
        miss = missed(rule)
        if miss is not None:
            found = best(miss.parts, miss.k, rule)
            self.assertIn(miss.number, [number for number, _ in plain_best(miss.parts, miss.k)])
            self.assertNotIn(miss.number, [number for number, _ in found.rows])
            self.assertIn(miss.number, found.passed)
            self.assertIsInstance(miss.parts, tuple)
            having = sum(miss.number in part.source for part in miss.parts)
            looked = sum(number == miss.number for number, _ in found.looked)
            self.assertEqual(having - looked, miss.many)
            self.assertEqual(miss.line, "between" if looked else "ahead")
        for _ in range(25):
            parts = drawn_parts(pick, rule)
            k = pick.randint(1, 5)
            found = best(parts, k, rule)
            good = [number for number, _ in plain_best(parts, k)]
            for number in found.passed:
                if number in good:
                    self.assertIsNotNone(miss, rule.text)
                    looked = sum(one == number for one, _ in found.looked)
                    left = sum(number in part.source for part in parts) - looked
                    self.assertGreaterEqual((left, looked > 0), (miss.many, miss.line == "between"), rule.text)
        return miss

    def test_drawn_rules(self):
        pick = random.Random(4)
        told = [self.check(pick, rule) for rule in (drawn_rule(pick) for _ in range(300))
                if re.search("0000", rule.text) is None]
        self.assertGreater(sum(miss is None for miss in told), 30)

    def test_close_rules(self):
        pick = random.Random(5)
        for _ in range(300):
            text = "papers " + pick.choice(("ascending", "descending", "by bounds"))
            text += pick.choice(("", "\nbounds up by 1", "\nbounds down by 1", "\nbounds near by 1"))
            for line in ("ahead: ", "between: seen + "):
                if pick.random() < 0.7:
                    text += "\n" + line + pick.choice(("blocks", "lists", "3/2 * blocks")) + " + {} - {} * parts".format(
                        pick.randint(1, 3), pick.choice(("1/2", "1", "2"))) \
                        + pick.choice((" <= least", " < least", " behind least"))
            self.check(pick, Rule(text))

    def test_many_parts(self):
        for order, relation, even in (("ascending", "<=", 0), ("ascending", "<", 0), ("by bounds", "behind", 0),
                                      ("descending", "<=", 1), ("by bounds", "<=", 1)):
            for line in ("ahead: blocks", "between: seen + blocks"):
                head = "papers " + order + "\n" + line
                for rest, many in ((59, 60 - even), (60, 61 - even), (61, 62 - even)):
                    rule = Rule(head + " + {} - parts {} least".format(rest, relation))
                    if many <= 60:
                        self.assertEqual(self.check(random.Random(6), rule).many, many)
                    else:
                        self.too_many(rule, many)
                self.too_many(Rule(head + " + 1000000 - 1/1000000 * parts {} least".format(relation)), 10 ** 12 + 1 - even)

    def too_many(self, rule, many):
        with self.assertRaises(TooMany) as held:
            missed(rule)
        self.assertEqual((held.exception.what, held.exception.many, held.exception.limit), ("parts", many, 60))

    def test_known_ones(self):
        for text, wanted in (
                ("papers by bounds\nahead: blocks behind least", None), ("papers by bounds\nahead: blocks < least", None),
                ("papers by bounds\nahead: blocks <= least", ("ahead", 1)), ("papers ascending\nahead: blocks <= least", None),
                ("papers descending\nahead: blocks <= least", ("ahead", 1)), ("papers ascending\nahead: lists <= least", None),
                ("papers descending", None), ("papers ascending\nbetween: seen + blocks behind least", None),
                ("papers ascending\nbetween: blocks <= least", ("between", 1)),
                ("papers ascending\nbounds down by 1\nahead: blocks + 5/2 < least", ("ahead", 3)),
                ("papers ascending\nbounds near by 1\nahead: blocks + 5/2 < least", ("ahead", 6)),
                ("papers ascending\nbounds up by 1\nahead: blocks behind least", None),
                ("papers by bounds\nahead: lists - blocks < least", ("ahead", 1)),
                # a paper without a score is never ahead where papers ascend: one bound is above 0, told as 10
                ("papers ascending\nbounds up by 10\nahead: 2 * blocks - parts < least", ("ahead", 11)),
                ("papers descending\nbounds up by 10\nahead: 2 * blocks - parts < least", ("ahead", 1)),
                ("papers ascending\nbounds up by 10\nbetween: seen + 2 * blocks - parts < least", ("between", 1)),
                ("papers ascending\nahead: 3 * blocks - 1/5 * parts + 1 < least", ("ahead", 6)),
                ("papers by bounds\nahead: blocks + 5 - parts < least\nbetween: seen + blocks + 5 - parts < least",
                 ("ahead", 6)),
                ("papers by bounds\nahead: blocks + 5 - parts < least\nbetween: seen + blocks + 4 - parts < least",
                 ("between", 5)),
                ("papers by bounds\nahead: blocks + 4 - parts < least\nbetween: seen + blocks + 5 - parts < least",
                 ("ahead", 5))):
            miss = self.check(random.Random(6), Rule(text))
            self.assertEqual(None if miss is None else (miss.line, miss.many), wanted, text)


if __name__ == "__main__":
    unittest.main()
