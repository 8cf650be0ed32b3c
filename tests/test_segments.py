"""[81] to [84]: sealed rows, marks, segments, lists."""

import random
import unittest

from wordquarry.analyzers import Analyzer
from wordquarry.bytesrows import Writer
from wordquarry.checksums import check_of
from wordquarry.errors import NoField, TornFile
from wordquarry.indexlists import IndexList, all_files, list_from, marks_file, segment_files
from wordquarry.layouts import plain_layout
from wordquarry.plans import Plan
from wordquarry.seals import is_whole, marked_from, marked_row, sealed, unsealed
from wordquarry.segments import merged, segment_from, segment_of

PLAN = Plan({"title": Analyzer("cut all"), "body": Analyzer("cut letters\nfold capitals\ndrop the\nend s off 1\nalso a b c\nboth")})
ENDS = ("lengths", "papers", "postings", "words")


def changes(pick, row, many):
    """Rows that are cut off, lengthened, or changed by a byte."""
    for at in range(len(row)):
        yield row[:at]
        yield row[:at] + ((row[at] + pick.randrange(1, 256)) & 255,) + row[at + 1:]
    for _ in range(many):
        yield row + tuple(pick.randrange(256) for _ in range(pick.randint(1, 5)))


class Seals(unittest.TestCase):

    def test_rows(self):
        pick = random.Random(1)
        for many in list(range(12)) + [127, 128, 300]:
            row = tuple(pick.randrange(256) for _ in range(many))
            told = sealed(list(row))
            total = check_of(row)
            ahead = (many,) if many < 128 else (128 + (many & 127), many >> 7)
            self.assertEqual(told, ahead + row + tuple((total >> 8 * at) & 255 for at in range(4)))
            self.assertTrue(is_whole(told))
            self.assertTrue(is_whole(list(told)))
            self.assertEqual(unsealed("n", told), row)
            for wrong in changes(pick, told, 3):
                self.assertFalse(is_whole(wrong))
                with self.assertRaises(TornFile) as held:
                    unsealed("n", wrong)
                self.assertEqual(held.exception.name, "n")
        self.assertFalse(is_whole(()))
        self.assertFalse(is_whole((128, 0) + sealed(())[1:]))

    def test_marks(self):
        pick = random.Random(2)
        for _ in range(150):
            many = pick.randint(0, 20)
            numbers = sorted(pick.sample(range(many), pick.randint(0, many)))
            row = marked_row(many, pick.sample(numbers, len(numbers)))
            self.assertEqual(marked_from("m", row), (many, tuple(numbers)))
            writer = Writer()
            writer.whole(many)
            writer.bits([int(at in numbers) for at in range(many)], 1)
            self.assertEqual(unsealed("m", row), writer.all_bytes())
            for wrong in list(changes(pick, row, 1)) + [sealed(unsealed("m", row) + (0,)), sealed(unsealed("m", row)[:-1] or (9,))]:
                with self.assertRaises(TornFile) as held:
                    marked_from("m", wrong)
                self.assertEqual(held.exception.name, "m")
        for within in ((), (3, 8), (3,), (8, 1, 0), (128, 0), (255, 255, 255, 255, 15)):
            with self.assertRaises(TornFile):
                marked_from("m", sealed(within))


def drawn_papers(pick, many, first=0):
    words = ("a", "b", "cat", "cats", "The", "dog", "x-y", "\n", "Dogs")
    papers = []
    for number in range(many):
        texts = {field: " ".join(pick.choice(words) for _ in range(pick.randint(0, 8)))
                 for field in ("title", "body") if pick.random() < 0.8}
        papers.append(("k{}".format(first + number), texts))
    return papers


class Segments(unittest.TestCase):

    def check(self, segment, papers):
        self.assertEqual((segment.many, segment.fields), (len(papers), ("body", "title")))
        self.assertEqual(segment.papers, tuple(key for key, _ in papers))
        self.assertEqual([segment.paper(number) for number in range(len(papers))], papers)
        for field in segment.fields:
            tokens = {number: PLAN.tokens(field, texts[field]) for number, (_, texts) in enumerate(papers) if field in texts}
            self.assertEqual(segment.lengths_of(field), {number: len(row) for number, row in tokens.items()})
            words = sorted({token[0] for row in tokens.values() for token in row})
            self.assertEqual(list(segment.terms_of(field).pairs_from("")), [(word, at) for at, word in enumerate(words)])
            for word in words:
                found = segment.postings_of(field, word)
                rows = [(number, tuple(sorted({token[1] for token in row if token[0] == word})))
                        for number, row in tokens.items() if any(token[0] == word for token in row)]
                self.assertEqual(found.rows, tuple(rows))
                self.assertEqual([found.length_of(number) for number, _ in rows], [len(tokens[number]) for number, _ in rows])
                self.assertEqual(found.layout, plain_layout())
            for value in ("zz", "", None, 5, ("a",)):
                self.assertIsNone(segment.postings_of(field, value))

    def test_papers(self):
        pick = random.Random(3)
        for turn in range(40):
            papers = drawn_papers(pick, pick.randint(0, 12))
            segment = segment_of(papers, PLAN)
            self.check(segment, papers)
            told = segment.told_files()
            self.assertEqual(sorted(told), list(ENDS))
            again = segment_from("s1", told)
            self.check(again, papers)
            self.assertEqual(again.told_files(), told)
            self.check_torn(pick, told)

    def check_torn(self, pick, told):
        torn = sorted(pick.sample(ENDS, pick.randint(1, 4)))
        rows = dict(told)
        for end in torn:
            rows[end] = pick.choice(list(changes(pick, told[end], 1)))
        with self.assertRaises(TornFile) as held:
            segment_from("s12", rows)
        self.assertEqual(held.exception.name, "s12." + torn[0])

    def test_fields(self):
        segment = segment_of([("k", {"title": "a"})], PLAN)
        for name in ("zz", "", None, 5, ("body",), []):
            for ask in (segment.terms_of, segment.lengths_of, lambda one: segment.postings_of(one, "a")):
                with self.assertRaises(NoField) as held:
                    ask(name)
                self.assertIs(held.exception.name, name)
        with self.assertRaises(NoField) as held:
            segment_of([("a", {"title": ""}), ("b", {"title": "", "zz": "", "cc": ""}), ("c", {"aa": ""})], PLAN)
        self.assertEqual(held.exception.name, "cc")

    def test_handed_out_things_are_new(self):
        papers = [("k", {"title": "a"})]
        segment = segment_of(papers, PLAN)
        papers[0][1]["title"] = "b"
        segment.paper(0)[1]["title"] = "c"
        segment.lengths_of("title")[0] = 9
        segment.told_files().clear()
        self.check(segment, [("k", {"title": "a"})])

    def test_merged(self):
        pick = random.Random(4)
        for _ in range(60):
            lots = [drawn_papers(pick, pick.randint(0, 5), 10 * at) for at in range(pick.randint(1, 4))]
            kept = [tuple(sorted(pick.sample(range(len(lot)), pick.randint(0, len(lot))))) for lot in lots]
            segments = [segment_of(lot, PLAN) for lot in lots]
            if pick.random() < 0.5:
                segments = [segment_from("s", segment.told_files()) for segment in segments]
            papers = [lot[number] for lot, numbers in zip(lots, kept) for number in numbers]
            wanted = segment_of(papers, PLAN)
            found = merged(segments, kept)
            self.check(found, papers)
            self.assertEqual(found.told_files(), wanted.told_files())
            steps = [merged([segment], [numbers]) for segment, numbers in zip(segments, kept)]
            while len(steps) > 1:
                at = pick.randrange(len(steps) - 1)
                two = steps[at:at + 2]
                steps[at:at + 2] = [merged(two, [tuple(range(one.many)) for one in two])]
            self.assertEqual(steps[0].told_files(), wanted.told_files())
        twice = merged([segments[0], segments[0]], [tuple(range(segments[0].many))] * 2)
        self.assertEqual(twice.papers, segments[0].papers * 2)


class Lists(unittest.TestCase):

    def test_told(self):
        pick = random.Random(5)
        for _ in range(60):
            files = pick.sample(["s{}.{}".format(number, end) for number in range(3) for end in ENDS] + ["f1", "~", "!"], pick.randint(0, 5))
            rows = [(pick.randint(0, 300), pick.choice((0, 0, 1, 200))) for _ in range(pick.randint(0, 4))]
            one = IndexList(pick.randint(0, 10 ** 9), pick.randint(0, 500), files, rows)
            self.assertEqual((one.files, one.rows), (tuple(sorted(files)), tuple(rows)))
            two = list_from("list", one.told)
            self.assertEqual((two.commit, two.counter, two.files, two.rows, two.told),
                             (one.commit, one.counter, one.files, one.rows, one.told))
            self.assertTrue(is_whole(one.told))
            within = unsealed("", one.told)
            for wrong in list(changes(pick, one.told, 1)) + [sealed(within[:at]) for at in range(len(within))] + [sealed(within + (0,))]:
                with self.assertRaises(TornFile) as held:
                    list_from("next", wrong)
                self.assertEqual(held.exception.name, "next")
        self.assertEqual(IndexList(1, 2, ["b", "a"]).rows, ())
        self.assertNotEqual(IndexList(1, 2, ["b", "a"]).told, IndexList(1, 2, ["a", "c"]).told)

    def test_rows_that_no_list_tells(self):
        for write in (lambda writer: (writer.whole(2), writer.signs("b"), writer.signs("a"), writer.whole(0)),
                      lambda writer: (writer.whole(1), writer.signs(""), writer.whole(0)),
                      lambda writer: (writer.whole(1), writer.signs("a b"), writer.whole(0)),
                      lambda writer: (writer.whole(1), writer.raw((1, 95)), writer.whole(0)),
                      lambda writer: (writer.whole(0), writer.whole(1), writer.whole(1)),
                      lambda writer: (writer.whole(10 ** 30), writer.whole(0)),
                      lambda writer: (writer.whole(0), writer.whole(10 ** 30))):
            writer = Writer()
            writer.whole(1)
            writer.whole(2)
            write(writer)
            with self.assertRaises(TornFile):
                list_from("list", sealed(writer.all_bytes()))

    def test_names(self):
        self.assertEqual(segment_files(12), ("s12.lengths", "s12.papers", "s12.postings", "s12.words"))
        self.assertEqual(marks_file(12, 3), "d12.3")
        self.assertEqual(all_files([(2, 0), (10, 4)]), ("d10.4",) + segment_files(10) + segment_files(2))
        self.assertEqual(all_files([[7, 1]]), ("d7.1",) + segment_files(7))
        self.assertEqual(all_files(()), ())


if __name__ == "__main__":
    unittest.main()
