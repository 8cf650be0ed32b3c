"""[59] to [61]: queries out of texts."""

import random
import unittest

from wordquarry.errors import BadNumber, BadText, BadWord, TooMany
from wordquarry.patterntexts import pattern_of
from wordquarry.queries import (Best, Both, Every, Exact, Flat, Matching, Never, Phrase, Some, Weighed, Without)
from wordquarry.querytexts import goes_on, read_query
from wordquarry.shares import Share
from wordquarry.signs import all_signs


def place(text, field="body"):
    """Where a text is wrong, None if it is right."""
    try:
        read_query(text, field)
    except BadText as error:
        return error.line, error.column
    return None


def is_beginning(text):
    """Whether a text of the right form begins so, as the place of its error tells."""
    try:
        found = place(text)
    except (BadNumber, BadWord, TooMany):
        return True
    lines = text.split("\n")
    return found is None or found == (len(lines), len(lines[-1]) + 1)


class Forms(unittest.TestCase):

    def test_the_example(self):
        self.assertEqual(read_query('title:("big cat"~2 -dog) | =puss^3/2', "body"),
                         Some([Both([Phrase("title", "big cat", 2), Without(Phrase("title", "dog", 0))]),
                               Weighed(Exact("body", "puss"), Share(3, 2))], 1))

    def test_right_ones(self):
        a, b, c = Phrase("f", "a"), Phrase("f", "b"), Phrase("f", "c")
        for text, wanted in (
                ("a", a), (" \n a\n ", a), ("a b", Both([a, b])), ("a\nb  c", Both([a, b, c])), ("a|b", Some([a, b])),
                ("a  |\n b c", Some([a, Both([b, c])])), ("a | b | c", Some([a, b, c])), ("(a)", a), ("( a )", a),
                ("((a))", a), ("-a", Without(a)), ("--a", Without(Without(a))), ("[2/4]a", Flat(a, Share(1, 2))),
                ("[0]-a", Flat(Without(a), 0)), ("-[1]a", Without(Flat(a, 1))), ("a^2", Weighed(a, 2)),
                ("a^2/3^4", Weighed(Weighed(a, Share(2, 3)), 4)), ("-a^2", Without(Weighed(a, 2))),
                ("(-a)^2", Weighed(Without(a), 2)), ("g:a", Phrase("g", "a")), ("g:h:a", Phrase("h", "a")),
                ("g:(a h:b)^2 c", Both([Weighed(Both([Phrase("g", "a"), Phrase("h", "b")]), 2), c])),
                ("g:a^2 b", Both([Weighed(Phrase("g", "a"), 2), b])), ("g:<a,b>+1 c", Both([Best([Phrase("g", "a"), Phrase("g", "b")], 1), c])),
                ('""', Phrase("f", "")), ('"a ""b"" "', Phrase("f", 'a "b" ')), ('""""', Phrase("f", '"')),
                ('"a\nb"~6', Phrase("f", "a\nb", 6)), ('"a"~0^2', Weighed(a, 2)), ("=a", Exact("f", "a")),
                ('="a|"', Exact("f", "a|")), ('=""""', Exact("f", '"')), ("g:=a", Exact("g", "a")),
                ("{'a'|'b'}", Matching("f", pattern_of("'a'|'b'"))), ("g:{any}^2", Weighed(Matching("g", pattern_of("any")), 2)),
                ("*", Every()), ("!", Never()), ("* !", Both([Every(), Never()])), ("all(a)", Both([a])),
                ("all( a\n,\nb )", Both([a, b])), ("all(a | b, c)", Both([Some([a, b]), c])), ("2of(a,b,c)", Some([a, b, c], 2)),
                ("1of(a)", Some([a], 1)), ("<a>", Best([a])), ("< a , b >", Best([a, b])), ("<a>+1/2", Best([a], Share(1, 2))),
                ("<a>+0", Best([a], 0)), ("all a", Both([Phrase("f", "all"), a])), ("2of", Phrase("f", "2of")),
                ("a-b", Phrase("f", "a-b")), ("_a./'#&$@;\\`+-?z9", Phrase("f", "_a./'#&$@;\\`+-?z9")),
                ("a -b", Both([a, Without(b)])), ("a |-b", Some([a, Without(b)])), ("of(a)".replace("of", "all"), Both([a])),
                ("allx", Phrase("f", "allx")), ("02of", Phrase("f", "02of")), ("=all", Exact("f", "all")), ("9", Phrase("f", "9"))):
            self.assertEqual(read_query(text, "f"), wanted, text)
            self.assertEqual(goes_on(text), "", text)

    def test_long_numbers(self):
        many = "9" * 1000
        self.assertEqual(read_query("a^" + many, "f").weight, Share(10 ** 1000 - 1))
        self.assertEqual(place("a^" + many + "9"), (1, 1003))
        self.assertEqual(place("a^1/" + many + "9"), (1, 1005))
        self.assertEqual(place("[" + many + "9"), (1, 1002))
        with self.assertRaises(BadNumber) as held:
            read_query(many + "of(a)", "f")
        self.assertEqual((held.exception.what, held.exception.number), ("least", 10 ** 1000 - 1))
        self.assertEqual(place("9" + many + "of(a)"), (1, 1004))
        self.assertIsNone(place("9" + many + "of"))

    def test_openings(self):
        for opening, closing in (("(", ")"), ("<", ">"), ("-", ""), ("[1]", ""), ("ab:", ""), ("all(", ")"), ("1of(", ")")):
            depth = 9 if opening in ("ab:", "(") else 1
            try:
                self.assertIsNone(place(opening * 20 + "a" + closing * 20))
            except TooMany as error:
                self.assertLess(depth, 2)
                self.assertEqual((error.what, error.many, error.limit), ("depth", 21, 12))
            wrong = len(opening) * 20 + (1 if opening == "[1]" else len(opening))
            self.assertEqual(place(opening * 20 + opening + "a"), (1, wrong))
            self.assertEqual(place(opening * 20 + "("), (1, len(opening) * 20 + 1))
        # a part and a core end with what stands behind them
        for text in ("-" * 19 + "a -a", "ab:" * 20 + "a^1 ab:a", "(" * 20 + "a" + ")" * 20 + " (a)"):
            self.assertTrue(is_beginning(text))
        self.assertEqual(place("(" * 20 + "a b:c"), (1, 24))
        self.assertEqual(place("-" * 10 + "ab:" * 10 + "a:"), (1, 42))
        for text in ("a:b:c ", "-a ", "[1]a^2 ", "<a>+1 ", "(-a:(b)) ", "all(-a, b) ", "2of(-a:b | c)^2 "):
            self.assertEqual(place(text + "(" * 21), (1, len(text) + 21))
            self.assertEqual(place(text + "(" * 20), (1, len(text) + 21))
            self.assertEqual(place(text + "-" * 21), (1, len(text) + 21))
        self.assertIsNone(place("(" * 20 + "a " + "b" + ")" * 20))

    def test_wrong_places(self):
        for text, line, column in (
                ("", 1, 1), (" ", 1, 2), ("\n", 2, 1), ("a\n|", 2, 2), ("a\n\n||", 3, 2), (")", 1, 1), ("a)", 1, 2), ("(a", 1, 3),
                ("(a\n", 2, 1), ("()", 1, 2), ("a,b", 1, 2), ("(a,", 1, 3), ("<a)", 1, 3), ("(a>", 1, 3), ("all()", 1, 5),
                ("all(a,)", 1, 7), ("all (a,b)", 1, 7), ("<>", 1, 2), ("<a>+", 1, 5), ("<a>+x", 1, 5), ("<a> +1", 1, 5), ("a ^1", 1, 3),
                ("a^", 1, 3), ("a^ 1", 1, 3), ("a^01", 1, 4), ("a^1/", 1, 5), ("a^1/0", 1, 5), ("a^-1", 1, 3), ("a^1x", 1, 4),
                ("- a", 1, 2), ("-", 1, 2), ("[", 1, 2), ("[1", 1, 3), ("[1 ]", 1, 3), ("[1] a", 1, 4), ("[1]", 1, 4), ("[]", 1, 2),
                ("a: b", 1, 3), ("a:-b", 1, 3), ("a:[1]b", 1, 3), ("A:b", 1, 2), ("abcdefghijklm:b", 1, 14), ("a1:b", 1, 3),
                ("a(b)", 1, 2), ("0", None, None), ("02of(a)", 1, 5), ("xof(a)", 1, 4), ("of(a)", 1, 3), ("=", 1, 2), ("= a", 1, 2),
                ("=-a", 1, 2), ("=(a)", 1, 2), ("=a:b", 1, 3), ("=all(a)", 1, 5), ('"a', 1, 3), ('"a\n', 2, 1), ('"a""', 1, 5), ('="a"~1', 1, 5),
                ('"a"~', 1, 5), ('"a"~x', 1, 5), ('"a"~10', 1, 6), ('"a"b', 1, 4), ("+a", 1, 1), (".a", 1, 1), ("a*", 1, 2), ("**", 1, 2),
                ("{'a'", 1, 5), ("{", 1, 2), ("{}", 1, 2), ("{'a' }", 1, 5), ("{'a'|}", 1, 6), ("{'a'&('b'}", 1, 10), ("{\n}", 1, 2),
                ("\n {'a'\n}", 2, 6), ("{'a'}b", 1, 6), ("{'a'}~1", 1, 6), ("a | | b", 1, 5), ("| a", 1, 1), ("a b |", 1, 6), ("a~1", 1, 2),
                ("%", None, "text")):
            if column == "text":
                with self.assertRaises(BadWord):
                    read_query(text, "f")
                continue
            self.assertEqual(place(text), None if line is None else (line, column), text)
            if line is not None and "{" not in text:
                lines = text.split("\n")
                self.assertEqual(goes_on(text) is not None, (line, column) == (len(lines), len(lines[-1]) + 1), text)

    def test_errors_of_making(self):
        for text, error, what, number in (
                ("a^0", BadNumber, "weight", Share(0)), ("[1]a^0", BadNumber, "weight", Share(0)), ("0of(a)", BadNumber, "least", 0),
                ("3of(a, b)", BadNumber, "least", 3), ("<a>+3/2", BadNumber, "rest", Share(3, 2)), ('"a"~7', BadNumber, "slop", 7),
                ('=""', BadWord, "word", None), ('="a b"', BadWord, "word", None), ("=" + "a" * 41, BadWord, "word", None),
                ("a^0 3of(b)", BadNumber, "weight", Share(0)), ("3of(b) a^0", BadNumber, "least", 3),
                ("5of(a^0)", BadNumber, "weight", Share(0)), ('<"a"~8, b>+2', BadNumber, "slop", 8)):
            with self.assertRaises((BadNumber, BadWord)) as held:
                read_query(text, "f")
            self.assertIsInstance(held.exception, error)
            self.assertEqual((held.exception.what, getattr(held.exception, "number", None)), (what, number))
            self.assertEqual(place(text + " )"), (1, len(text) + 2))

    def test_many_queries(self):
        self.assertEqual(read_query(" ".join("a" * 119), "f").size, 120)
        for text, what, many, limit in ((" ".join("a" * 120), "queries", 121, 120), ("a" + "^1" * 12, "depth", 13, 12),
                                        ("a" + "^1" * 200, "queries", 201, 120)):
            with self.assertRaises(TooMany) as held:
                read_query(text, "f")
            self.assertEqual((held.exception.what, held.exception.many, held.exception.limit), (what, many, limit))
        self.assertEqual(read_query("a" + "^1" * 11, "f").depth, 12)

    def test_no_texts(self):
        for value in (None, 5, "a%", "\t", b"a", ["a"]):
            for call in (lambda: read_query(value, None), lambda: goes_on(value)):
                with self.assertRaises(BadWord) as held:
                    call()
                self.assertEqual(held.exception.what, "text")
        for value in (None, "", "A", "abcdefghijklm", 5):
            with self.assertRaises(BadWord) as held:
                read_query(")", value)
            self.assertEqual(held.exception.what, "field")


class Drawn:
    """Draws texts of queries together with the queries that they stand for."""

    def __init__(self, pick):
        self.pick = pick

    def blanks(self, least=0):
        return "".join(self.pick.choice(" \n") for _ in range(self.pick.choice((least, least, least + 1, least + 2))))

    def share(self, least, most):
        top, bottom = self.pick.randint(least, most), self.pick.choice((1, 1, 2, 3))
        told = str(top) if bottom == 1 and self.pick.random() < 0.7 else "{}/{}".format(top, bottom)
        return told, Share(top, bottom)

    def query(self, field, depth):
        """Rows; most of them, and most parts, stand alone."""
        rows = [self.row(field, depth) for _ in range(self.pick.choice((1, 1, 2, 3)) if depth else 1)]
        text = (self.blanks() + "|" + self.blanks()).join(text for text, _ in rows)
        return text, rows[0][1] if len(rows) == 1 else Some([query for _, query in rows], 1)

    def row(self, field, depth):
        parts = [self.part(field, depth) for _ in range(self.pick.choice((1, 1, 2, 3)) if depth else 1)]
        text = parts[0][0]
        for told, _ in parts[1:]:
            text += self.blanks(1) + told
        return text, parts[0][1] if len(parts) == 1 else Both([query for _, query in parts])

    def part(self, field, depth):
        kind = self.pick.randrange(6)
        if kind == 0:
            text, query = self.part(field, depth)
            return "-" + text, Without(query)
        if kind == 1:
            told, share = self.share(0, 9)
            text, query = self.part(field, depth)
            return "[" + told + "]" + text, Flat(query, share)
        text, query = self.core(field, depth)
        for _ in range(self.pick.choice((0, 0, 1, 2))):
            told, share = self.share(1, 9)
            text, query = text + "^" + told, Weighed(query, share)
        return text, query

    def core(self, field, depth):
        kind = self.pick.randrange(13 if depth else 8)
        if kind == 0:
            name = self.pick.choice(("a", "all", "of", "title", "abcdefghijkl"))
            text, query = self.core(name, depth)
            return name + ":" + text, query
        word = self.pick.choice(("all", "2of", "a", "_-+", "9./'#&$@;\\`+-?", "A", "of", "x" * 40))
        quoted = self.pick.choice(("", "a b", 'a"b', "\n|", '"', "}{(", ")^2"))
        slop = self.pick.randint(0, 6)
        leaves = ((word, Phrase(field, word)), ("=" + word, Exact(field, word)), ("*", Every()), ("!", Never()),
                  ("{'a'*|'b'}", Matching(field, pattern_of("'a'*|'b'"))),
                  ('"' + quoted.replace('"', '""') + '"', Phrase(field, quoted)),
                  ('"' + quoted.replace('"', '""') + '"~' + str(slop), Phrase(field, quoted, slop)))
        if kind < 8:
            return leaves[kind - 1]
        many = 1 if kind == 8 else self.pick.randint(1, 3)
        below = [self.query(field, depth - 1) for _ in range(many)]
        text = (self.blanks() + "," + self.blanks()).join(told for told, _ in below)
        text, queries = self.blanks() + text + self.blanks(), [query for _, query in below]
        if kind == 8:
            return "(" + text + ")", queries[0]
        if kind == 9:
            return "all(" + text + ")", Both(queries)
        if kind == 10:
            least = self.pick.randint(1, many)
            return str(least) + "of(" + text + ")", Some(queries, least)
        if kind == 11:
            return "<" + text + ">", Best(queries)
        told, share = self.pick.choice((("0", 0), ("1", 1), ("2/4", Share(1, 2)), ("5/7", Share(5, 7))))
        return "<" + text + ">+" + told, Best(queries, share)


class DrawnForms(unittest.TestCase):

    def test_all_forms(self):
        pick = random.Random(7)
        drawn = Drawn(pick)
        met = 0
        for _ in range(1500):
            field = pick.choice(("body", "f"))
            text, query = drawn.query(field, pick.randint(0, 3))
            text = drawn.blanks() + text + drawn.blanks()
            if query.size > 120 or query.depth > 12:
                continue
            met += 1
            self.assertEqual(read_query(text, field).told, query.told, text)
            self.assertEqual(read_query(text, field), query)
            cut = text[:pick.randrange(len(text) + 1)]
            self.assertTrue(is_beginning(cut), (text, cut))
        self.assertGreater(met, 1000)


class GoingOn(unittest.TestCase):

    def shortest(self, text, most):
        """By going through all texts that may follow, the shortest first, in their order."""
        rows = [""]
        for _ in range(most + 1):
            for row in rows:
                if place_or_made(text + row) is None:
                    return row
            rows = [row + sign for row in rows for sign in all_signs() if sign not in "{}" and is_beginning(text + row + sign)]
        return "too long"

    def test_all_short_ones(self):
        pick = random.Random(1)
        signs = 'a1 "\n()<>|,-[]^/:=~*!+'
        texts = [""] + list(signs) + [one + two for one in signs for two in signs]
        texts += ["".join(pick.choice(signs) for _ in range(pick.randint(3, 6))) for _ in range(150)]
        texts += ["all(", "2of(", "all(a", "<a>+1/", "a^1/", 'ab:="', "a |", "[1/2", "<(a", "al", "2o"]
        for text in texts:
            if not is_beginning(text):
                self.assertIsNone(goes_on(text), text)
            elif len(goes_on(text)) <= 2:
                self.assertEqual(goes_on(text), self.shortest(text, 2), text)
            else:
                self.assertIsNone(place_or_made(text + goes_on(text)))

    def test_cut_off_texts(self):
        for whole in ('title:("big cat"~2 -dog) | =puss^3/2', '2of(a, <b, all(c | d)>+1/2, [3]-e^2/3) "x""y"', ' < ( a ) > '):
            for at in range(len(whole) + 1):
                text = whole[:at]
                self.assertTrue(is_beginning(text))
                self.assertIsNone(place_or_made(text + goes_on(text)))
                for less in range(len(goes_on(text))):
                    self.assertIsNotNone(place_or_made(text + goes_on(text)[:less]), text)
        self.assertEqual(goes_on("[12/"), "1]!")
        self.assertEqual(goes_on("<(all(-["), "0]!))>")
        self.assertEqual(goes_on('<(2of("a""'), '"))>')


def place_or_made(text):
    try:
        return place(text)
    except (BadNumber, BadWord, TooMany):
        return None


if __name__ == "__main__":
    unittest.main()
