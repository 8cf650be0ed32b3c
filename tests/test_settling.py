"""[72]: settled queries, held against the rules done one by one in any order, and against all truths."""

import random
import unittest
from fractions import Fraction

from wordquarry.patterntexts import pattern_of
from wordquarry.queries import (Best, Both, Every, Exact, Flat, Matching, Never, Phrase, Some, Weighed,
                                Without)
from wordquarry.querytexts import read_query
from wordquarry.settling import settled
from wordquarry.shares import Share

A, B, C = Phrase("a", "x"), Exact("a", "x"), Matching("b", pattern_of("'y'*"))
LEAVES = [A, B, C, Phrase("a", "x", 2)]


def drawn_query(pick, depth, ends=(Every(), Never())):
    if depth == 0 or pick.random() < 0.15:
        return pick.choice(LEAVES + list(ends))
    below = [drawn_query(pick, depth - 1, ends) for _ in range(pick.randint(1, 4))]
    weight = pick.choice((0, 1, 2, Share(1, 2), Share(3, 2), 1))
    kind = pick.randrange(6)
    if kind == 0:
        return Both(below)
    if kind == 1:
        return Some(below, pick.randint(1, len(below)))
    if kind == 2:
        return Best(below, pick.choice((0, 0, 1, Share(1, 2))))
    if kind == 3:
        return Without(below[0])
    return Weighed(below[0], weight or 1) if kind == 4 else Flat(below[0], weight)


def score(query, told):
    """None if the query does not hold; told has the scores of the leaves."""
    if isinstance(query, (Phrase, Exact, Matching)):
        return told[query.told]
    if isinstance(query, Every):
        return Fraction(0)
    if isinstance(query, Never):
        return None
    if isinstance(query, (Without, Weighed, Flat)):
        below = score(query.query, told)
        if isinstance(query, Without):
            return Fraction(0) if below is None else None
        if below is None:
            return None
        weight = Fraction(query.weight.top, query.weight.bottom)
        return weight if isinstance(query, Flat) else below * weight
    scores = [one for one in (score(below, told) for below in query.queries) if one is not None]
    least = len(query.queries) if isinstance(query, Both) else query.least if isinstance(query, Some) else 1
    if len(scores) < least:
        return None
    if isinstance(query, Best):
        return max(scores) + (sum(scores) - max(scores)) * Fraction(query.rest.top, query.rest.bottom)
    return sum(scores, Fraction(0))


def atoms(query):
    if isinstance(query, (Weighed, Flat)):
        return [query.weight]
    if isinstance(query, (Both, Some, Best)):
        return [share for one in query.queries for share in atoms(one)]
    return [Share(1)] if isinstance(query, (Phrase, Exact, Matching)) else []


def factor(pick, one, other):
    """The share by which one is weighed to be the other one, None if they are not alike."""
    if one == other:
        return Share(1)
    for top in atoms(other):
        for bottom in atoms(one):
            if top.top and bottom.top:
                share = top.over(bottom)
                if plain(pick, Weighed(one, share), False) == other:
                    return share
    return None


def rebuilt(query, queries):
    if isinstance(query, Both):
        return Both(queries)
    return Some(queries, query.least) if isinstance(query, Some) else Best(queries, query.rest)


def is_some(query):
    return isinstance(query, Some) and query.least == 1


def is_best(query):
    return isinstance(query, Best) and query.rest == 0


def list_ways(pick, query, is_bare):
    """What one of the rules makes of a Both, a Some or a Best; its queries are settled."""
    rows = list(query.queries)
    ways = []
    many = len(rows)
    for at, one in enumerate(rows):
        rest = rows[:at] + rows[at + 1:]
        for same in (lambda two: isinstance(two, Both), is_some, is_best if not is_bare else lambda two: False):
            if same(query) and same(one):
                ways.append(rebuilt(query, rows[:at] + list(one.queries) + rows[at + 1:]))
        if isinstance(one, Every) and isinstance(query, Both) and rest:
            ways.append(Both(rest))
        if isinstance(one, Every) and isinstance(query, Some) and query.least > 1:
            ways.append(Some(rest, query.least - 1))
        if isinstance(one, Every) and is_some(query) and is_bare:
            ways.append(one)
        if isinstance(one, Never):
            if isinstance(query, Both) or not rest or isinstance(query, Some) and query.least > len(rest):
                ways.append(Never())
            else:
                ways.append(rebuilt(query, rest))
        for place in range(at + 1, many):
            other = rows[place]
            left = rest[:place - 1] + rest[place:]
            if is_bare and (isinstance(query, Both) or is_some(query)) and one == other:
                ways.append(rebuilt(query, rest))
            share = None if is_bare else factor(pick, one, other)
            if share is not None and (isinstance(query, Both) or is_some(query)):
                ways.append(rebuilt(query, left + [Weighed(one, share + 1)]))
            if share is not None and is_best(query):
                ways.append(rebuilt(query, left + [one if share.at_most(1) else other]))
    if many == 1 and (isinstance(query, (Both, Best)) or is_some(query)):
        ways.append(rows[0])
    if isinstance(query, Some) and query.least == many:
        ways.append(Both(rows))
    if isinstance(query, Best) and (is_bare or query.rest == 1):
        ways.append(Some(rows, 1))
    if rows != sorted(rows, key=lambda one: one.told):
        ways.append(rebuilt(query, sorted(rows, key=lambda one: one.told)))
    return pick.choice(ways) if ways else None


def one_way(pick, query, is_bare):
    """What one of the rules makes of a query, None if none does anything."""
    if isinstance(query, (Both, Some, Best)):
        return list_ways(pick, query, is_bare)
    if isinstance(query, (Phrase, Exact, Matching, Every, Never)):
        return None
    below = query.query
    if isinstance(query, Without):
        if isinstance(below, Every):
            return Never()
        if isinstance(below, Never):
            return Every()
        if isinstance(below, Without):
            return below.query if is_bare else Flat(below.query, 0)
        return None
    if is_bare:
        return below
    if isinstance(query, Flat):
        if isinstance(below, Never):
            return below
        return below if query.weight == 0 and isinstance(below, (Every, Without)) else None
    if query.weight == 1 or isinstance(below, (Without, Every, Never)):
        return below
    if isinstance(below, (Both, Some, Best)):
        return rebuilt(below, [Weighed(one, query.weight) for one in below.queries])
    if isinstance(below, Weighed):
        return Weighed(below.query, below.weight * query.weight)
    return Flat(below.query, below.weight * query.weight) if isinstance(below, Flat) else None


def plain(pick, query, is_bare):
    """Settled by the rules, one after the other, in any order."""
    while True:
        if isinstance(query, (Both, Some, Best)):
            query = rebuilt(query, [plain(pick, one, is_bare) for one in query.queries])
        elif isinstance(query, Without):
            query = Without(plain(pick, query.query, True))
        elif isinstance(query, Weighed):
            query = Weighed(plain(pick, query.query, is_bare), query.weight)
        elif isinstance(query, Flat):
            query = Flat(plain(pick, query.query, True), query.weight)
        further = one_way(pick, query, is_bare)
        if further is None:
            return query
        query = further


class Settled(unittest.TestCase):

    def test_truths_and_scores(self):
        pick = random.Random(1)
        for _ in range(1500):
            query = drawn_query(pick, pick.randint(1, 4))
            found = settled(query)
            for _ in range(8):
                told = {leaf.told: pick.choice((None, Fraction(0), Fraction(1), Fraction(5, 7), Fraction(3)))
                        for leaf in LEAVES}
                self.assertEqual(score(found, told), score(query, told), query.told)
            self.assertEqual(settled(found), found, query.told)

    def test_rules_in_any_order(self):
        pick = random.Random(2)
        for turn in range(900):
            query = drawn_query(pick, pick.randint(1, 3), (Every(), Never()) if turn % 2 else ())
            self.assertEqual(settled(query).told, plain(pick, query, False).told, query.told)

    def test_known_ones(self):
        for text, wanted in (
                ("all(a)", 'f:"a"'), ("<a>", 'f:"a"'), ("1of(a)", 'f:"a"'), ("2of(a, b)", 'f:"a" f:"b"'),
                ("b (a c)", 'f:"a" f:"b" f:"c"'), ("b | (a | c)", 'f:"a" | f:"b" | f:"c"'),
                ("* a", 'f:"a"'), ("* *", "*"), ("2of(*, a, b)", 'f:"a" | f:"b"'), ("* | a", '* | f:"a"'),
                ("! | a", 'f:"a"'), ("! a", "!"), ("2of(!, a)", "!"), ("<!>", "!"), ("[2]!", "!"), ("-*", "!"),
                ("-!", "*"), ("<a, b>+1", 'f:"a" | f:"b"'), ("<<b, c>, a>", '<f:"a", f:"b", f:"c">'),
                ("<<b, c>+1/2, a>", '<<f:"b", f:"c">+1/2, f:"a">'), ("(a b)^2", 'f:"a"^2 f:"b"^2'),
                ("(a | b)^2", 'f:"a"^2 | f:"b"^2'), ("<a, b>+1/2^2", '<f:"a"^2, f:"b"^2>+1/2'), ("a^2^3", 'f:"a"^6'),
                ("([2]a)^3", '[6]f:"a"'), ("a^1", 'f:"a"'), ("(-a)^3", '-f:"a"'), ("*^3", "*"), ("!^3", "!"),
                ("--a", '[0]f:"a"'), ("---a", '-f:"a"'), ("[0]*", "*"), ("[0]-a", '-f:"a"'), ("[2]*", "[2]*"),
                ("a a^2 a", 'f:"a"^4'), ("a | a", 'f:"a"^2'), ("<a, a^2, a^1/2>", 'f:"a"^2'),
                ("2of(a, a, b)", '2of(f:"a", f:"a", f:"b")'), ("<a, a>+1/2", '<f:"a", f:"a">+1/2'),
                ("(a | b) (a^2 | b^2)", 'f:"a"^3 | f:"b"^3'), ("[2]a [3]a", '[5]f:"a"'), ("-a -a", '-f:"a"'),
                ("[1](a^2 a)", '[1]f:"a"'), ("[1]<a, b>", '[1](f:"a" | f:"b")'), ("[1](* | a)", "[1]*"),
                ("-(a a | [3]b)", '-(f:"a" | f:"b")'), ("-(--a b)", '-(f:"a" f:"b")'),
                ("[1]2of(*, *, a, b)", "[1]*"), ("2of(*, *, a)", '* | f:"a"'), ("b a^2 c", 'f:"a"^2 f:"b" f:"c"')):
            self.assertEqual(settled(read_query(text, "f")).told, wanted, text)


if __name__ == "__main__":
    unittest.main()
