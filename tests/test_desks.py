"""[104] to [107]: desks, held against plain rows of papers command by command."""

import random
import unittest

from tests.test_plainlook import drawn_query
from wordquarry.analyzers import Analyzer
from wordquarry.desks import Desk, desk_of
from wordquarry.errors import (BadNumber, BadText, BadWord, NoField, NoPaper, NothingToRedo, NothingToUndo,
                               SearchError, TakenKey, TooMany)
from wordquarry.marks import marks
from wordquarry.plainlook import holds, score_of
from wordquarry.plans import Plan
from wordquarry.queries import leaves_of
from wordquarry.querytexts import read_query
from wordquarry.scorings import Scoring

PLAN = Plan({"title": Analyzer("cut letters\nclose of"), "body": Analyzer("cut letters\nfold capitals\ndrop the\nend s off 1\nalso a b c\nboth")})
SCORING = Scoring("(papers + 1 over having) times 2*count + 1 over count + long + 1/3")
KEYS = ("k1", "k2", "~'\\", "put")
TEXTS = ("", "a b", "as b of c", 'x "a" ""', '"', "the  d")


def new_desk():
    return Desk(PLAN, "body", SCORING)


def quoted(text):
    return '"' + text.replace('"', '""') + '"'


class PlainDesk:
    """Papers as a list; all states are kept."""

    def __init__(self):
        self.papers, self.kept, self.before, self.behind = [], [], [], []

    def deed(self, papers):
        self.before.append(self.papers)
        self.behind = []
        self.papers = papers

    def done(self, line):
        word, _, rest = line.partition(" ")
        if word in ("put", "exchange"):
            key, fields = rest
        return getattr(self, word)(rest)

    def put(self, key, fields):
        if key in dict(self.papers):
            raise TakenKey(key)
        self.check(fields)
        self.deed(self.papers + [(key, fields)])

    def exchange(self, key, fields):
        if key not in dict(self.papers):
            raise NoPaper(key)
        self.check(fields)
        self.deed([paper for paper in self.papers if paper[0] != key] + [(key, fields)])

    def check(self, fields):
        for field in sorted(fields):
            if field not in PLAN.fields:
                raise NoField(field)

    def drop(self, key):
        if key not in dict(self.papers):
            raise NoPaper(key)
        self.deed([paper for paper in self.papers if paper[0] != key])

    def back(self):
        self.deed(list(self.kept))

    def commit(self):
        self.kept = list(self.papers)

    def merge(self):
        pass

    def undo(self):
        if not self.before:
            raise NothingToUndo()
        self.behind.append(self.papers)
        self.papers = self.before.pop()

    def redo(self):
        if not self.behind:
            raise NothingToRedo()
        self.before.append(self.papers)
        self.papers = self.behind.pop()

    def find(self, text):
        query = read_query(text, "body")
        holds(query, PLAN, {})
        return [key for key, fields in self.papers if holds(query, PLAN, fields)]

    def best(self, many, text):
        found = self.find(text)
        query = read_query(text, "body")
        dicts = [fields for _, fields in self.papers]
        rows = [(key, score_of(query, PLAN, dicts, at, SCORING)) for at, (key, _) in enumerate(self.papers) if key in found]
        rows = sorted(rows, key=lambda row: -row[1].top * 10 ** 40 // row[1].bottom)
        return [key + " " + score.written() for key, score in rows[:many]]

    def marks(self, key, name, text):
        query = read_query(text, "body")
        if key not in dict(self.papers):
            raise NoPaper(key)
        return ["{} {}".format(*stretch) for stretch in marks(query, PLAN, dict(self.papers)[key], name)]

    def kinds(self, name, text):
        found = self.find(text)
        if name not in PLAN.fields:
            raise NoField(name)
        texts = [fields[name] for key, fields in self.papers if key in found and name in fields]
        return ["{} {}".format(texts.count(text), quoted(text)) for text in sorted(set(texts), key=lambda text: (-texts.count(text), text))]

    def script(self):
        return "\n".join(" ".join(["put", key] + [field + " " + quoted(fields[field]) for field in sorted(fields)]) for key, fields in self.papers)


def drawn_command(pick, queries):
    """A command: (line, name of the method, arguments)."""
    kind = pick.choice(("put", "put", "put", "exchange", "drop", "find", "best", "marks", "kinds", "undo", "undo", "redo", "commit", "merge", "back"))
    key, query = pick.choice(KEYS), pick.choice(queries).told
    if kind in ("put", "exchange"):
        names = pick.sample(("title", "body", "zz", "yy"), 4)[:2] if pick.random() < 0.1 else pick.sample(("title", "body"), pick.randint(0, 2))
        fields = {name: pick.choice(TEXTS) for name in names}
        return " ".join([kind, key] + [name + " " + quoted(fields[name]) for name in names]), kind, (key, fields)
    if kind == "drop":
        return "drop " + key, kind, (key,)
    name = pick.choice(("title", "body", "zz"))
    many = pick.choice((1, 2, 999999999))
    return {"find": ("find " + query, kind, (query,)), "best": ("best {} {}".format(many, query), kind, (many, query)),
            "marks": ("marks {} {} {}".format(key, name, query), kind, (key, name, query)),
            "kinds": ("kinds {} {}".format(name, query), kind, (name, query))}.get(kind, (kind, kind, ()))


def outcome(ask):
    try:
        return ask()
    except SearchError as error:
        return type(error), {key: str(value) for key, value in vars(error).items()}


class Commands(unittest.TestCase):

    def test_command_by_command(self):
        pick = random.Random(1)
        met = {}
        for _ in range(60):
            queries = [drawn_query(pick, 2) for _ in range(5)]
            queries = [query for query in queries if all(len(getattr(leaf, "words", "").split()) < 5 for leaf in leaves_of(query))]
            queries.append(read_query('zz:a title:"a b c d e f g h i"', "body"))
            queries.append(read_query('"d e f g h i j k l"', "body"))
            queries.append(read_query("* | a", "body"))
            desk, plain = new_desk(), PlainDesk()
            for _ in range(40):
                line, kind, told = drawn_command(pick, queries)
                wanted = outcome(lambda: getattr(plain, kind)(*told) or [])
                found = outcome(lambda: desk.done(line))
                self.assertEqual(found, wanted, line)
                self.assertEqual(desk.script(), plain.script())
                met.setdefault(kind, set()).add(type(found))
                met.setdefault("errors", set()).add(found[0] if isinstance(found, tuple) else None)
            again = desk_of(desk.script(), PLAN, "body", SCORING)
            self.assertEqual(again.script(), desk.script())
            self.assertEqual(again.done("best 9 a | b"), desk.done("best 9 a | b"))
        self.assertEqual(met["errors"], {None, TakenKey, NoPaper, NoField, TooMany, NothingToUndo, NothingToRedo})

    def test_known_ones(self):
        desk = new_desk()
        for line in ('put k title "big ""cat""" body ""', "put j", "commit", 'exchange k body "x"', "drop j"):
            self.assertEqual(desk.done(line), [])
        self.assertEqual(desk.script(), 'put k body "x"')
        desk.done("back")
        self.assertEqual(desk.script(), 'put k body "" title "big ""cat"""\nput j')
        for line in ("undo", "undo", "undo", "undo", "undo"):
            desk.done(line)
        self.assertEqual(desk.script(), "")
        with self.assertRaises(NothingToUndo):
            desk.done("undo")
        desk.done("redo")
        desk.done("redo")
        # what was kept stays kept
        desk.done("back")
        self.assertEqual(desk.done("find *"), ["k", "j"])
        with self.assertRaises(NothingToRedo):
            desk.done("redo")
        desk.done("undo")
        desk.done("commit")
        desk.done("drop j")
        desk.done("undo")
        desk.done("commit")
        self.assertEqual(desk.done("kinds title *"), ['1 "big ""cat"""'])
        fresh = new_desk()
        fresh.done("put a")
        fresh.done("back")
        self.assertEqual(fresh.done("find *"), [])
        fresh.done("undo")
        self.assertEqual((fresh.done("find *"), fresh.done("merge"), fresh.done("find -x")), (["a"], [], ["a"]))
        # a back that is done again makes what it made
        fresh.done("commit")
        fresh.done("put b")
        fresh.done("back")
        fresh.done("undo")
        fresh.done("commit")
        fresh.done("redo")
        self.assertEqual(fresh.done("find *"), ["a"])

    def test_answers_are_new(self):
        desk = new_desk()
        desk.done("put a")
        desk.done("find *").append("b")
        self.assertEqual(desk.done("find *"), ["a"])

    def column(self, line):
        desk = new_desk()
        desk.done('put k title "a"')
        with self.assertRaises(BadText) as held:
            desk.done(line)
        self.assertEqual(held.exception.line, 1)
        self.assertEqual(desk.script(), 'put k title "a"')
        return held.exception.column

    def test_wrong_columns(self):
        for line, column in (("", 1), (" put k", 1), ("x", 1), ("p", 2), ("pux", 3), ("put", 4), ("put ", 5), ("put  k", 5), ('put "', 5),
                             ('put k"', 6), ("put j ", 7), ("put j  ", 7), ("put j a", 8), ("put j a ", 9), ("put j A", 7), ("put j a1", 8),
                             ("put j a x", 9), ('put j a "', 10), ('put j a "x""', 13), ('put j a "x"y', 12), ('put j a "x" ', 13),
                             ('put j a "x" a', 14), ('put j a "x" a "y"', 14), ('put j a "x" aa', 15), ('put j ab "x" abc "y" ab "z"', 24),
                             ("put " + "k" * 41, 45), ("put " + "k" * 40 + "x a", 45), ("put j " + "a" * 13, 19), ('put j a "x\ny"', 11),
                             ("put j\n", 6), ("put\nj", 4), ("exchange", 9), ("exchang k", 8), ("exchange j a", 13), ("drop", 5), ("drop ", 6),
                             ("drop k ", 7), ("drop k\n", 7), ("drop k x", 7), ("drop " + "k" * 41, 46), ("find", 5), ("find ", 6), ("find a)", 7),
                             ("find a |", 9), ("find  a |", 10), ("find a\n", 7), ("find \n", 6), ("find )\n", 6), ('find "\n"', 7), ("find {'a'\n}", 10),
                             ("find {'a", 9), ("find {'a'&}", 11), ("find {\\}", 7), ("find a ) \n", 8), ("best", 5), ("best 0 a", 6), ("best 01 a", 6),
                             ("best x a", 6), ("best 1", 7), ("best 1 ", 8), ("best 1  ", 9), ("best 1234567890 a", 15), ("best 10 a ^", 11),
                             ("marks", 6), ("marks k", 8), ("marks k ", 9), ("marks k title", 14), ("marks k title ", 15), ("marks k title a b (", 20),
                             ("marks k Title a", 9), ("mar k", 4), ("m", 2), ("kinds", 6), ("kinds title", 12), ("kinds title ", 13), ("kinds 1 a", 7),
                             ("kinds title =", 14), ("undo ", 5), ("undo x", 5), ("un", 3), ("redone", 5), ("merge\n", 6), ("commit now", 7), ("b", 2),
                             ("bac", 4), ("backs", 5), ("be", 3), ("find a" + " (" * 21, 6 + 42)):
            self.assertEqual(self.column(line), column, line)
        desk = new_desk()
        for line in ("put " + "k" * 40, "put j " + "a" * 12 + ' "x"', "best 999999999 a", "find   a  ", "find (a", "find a"):
            try:
                self.assertIsInstance(desk.done(line), list)
            except (NoField, BadText) as error:
                self.assertTrue(isinstance(error, NoField) == ("aaa" in line))

    def test_errors_of_making(self):
        desk = new_desk()
        for line, kind in (('find ="a b"', BadWord), ('find "a"~9', BadNumber), ("best 3 3of(a, b)", BadNumber), ("marks k title a^0", BadNumber),
                           ("kinds title <a, b>+2", BadNumber), ("find " + " ".join("a" * 130), TooMany)):
            with self.assertRaises(kind):
                desk.done(line)
            # a newline behind is wrong ahead of what making raises
            with self.assertRaises(BadText) as held:
                desk.done(line + "\n")
            self.assertEqual((held.exception.line, held.exception.column), (1, len(line) + 1))

    def test_errors_in_their_order(self):
        desk = new_desk()
        desk.done('put k title "a"')
        nine = 'title:"a b c d e f g h i"'
        for line, kind, told in (('put k zz "" yy ""', TakenKey, "k"), ('put j zz "" yy ""', NoField, "yy"), ('exchange j zz ""', NoPaper, "j"),
                                 ('exchange k zz "" yy ""', NoField, "yy"), ("drop j", NoPaper, "j"), ("find zz:a yy:b " + nine, NoField, "yy"),
                                 ("find " + nine, TooMany, 9), ("best 1 " + nine, TooMany, 9), ("best 1 zz:" + nine, TooMany, 9), ("marks j zz yy:a", NoPaper, "j"),
                                 ("marks k zz yy:a", NoField, "yy"), ("marks k zz " + nine, TooMany, 9), ("marks k zz a", NoField, "zz"),
                                 ("kinds zz yy:a", NoField, "yy"), ("kinds zz " + nine, TooMany, 9), ("kinds zz a", NoField, "zz")):
            with self.assertRaises(kind) as held:
                desk.done(line)
            self.assertIn(told, vars(held.exception).values(), line)
            self.assertEqual(desk.script(), 'put k title "a"')
        with self.assertRaises(TooMany) as held:
            new_desk().done("find " + nine)
        self.assertEqual((held.exception.what, held.exception.many, held.exception.limit), ("places", 9, 8))
        for value in (None, 5, "put k\t", "%", ["undo"]):
            with self.assertRaises(BadWord) as held:
                desk.done(value)
            self.assertEqual(held.exception.what, "line")
        for field in ("zz", "", None):
            with self.assertRaises(NoField) as held:
                Desk(PLAN, field, SCORING)
            self.assertEqual(held.exception.name, field)

    def test_scripts(self):
        desk = desk_of('put a title "x"\nput b\nundo\nput c body "y"\nfind *\ncommit\ndrop a\nback', PLAN, "title", SCORING)
        self.assertEqual(desk.script(), 'put a title "x"\nput c body "y"')
        self.assertEqual(desk.done("find x"), ["a"])
        self.assertEqual(desk_of("", PLAN, "body", SCORING).script(), "")
        for text, place in (("\n", (1, 1)), ("put a\n", (2, 1)), ("put a\nput b x", (2, 8)), ('put a\nput b title "x\ny"', (2, 15)), ("put a\n\nx", (2, 1)),
                            ("put a\nfind a |\nx", (2, 9))):
            with self.assertRaises(BadText) as held:
                desk_of(text, PLAN, "body", SCORING)
            self.assertEqual((held.exception.line, held.exception.column), place, text)
        with self.assertRaises(TakenKey):
            desk_of("put a\nput a\nx", PLAN, "body", SCORING)
        for value in (None, 3, "\t"):
            with self.assertRaises(BadWord) as held:
                desk_of(value, PLAN, "zz", SCORING)
            self.assertEqual(held.exception.what, "text")
        with self.assertRaises(NoField):
            desk_of("x", PLAN, "zz", SCORING)


if __name__ == "__main__":
    unittest.main()
