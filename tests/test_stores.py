"""[87] to [90]: stores and readers, held against plain dicts and a plain ledger deed by deed."""

import random
import unittest

from tests.plainledgers import PlainLedger, near_plain
from wordquarry.analyzers import Analyzer
from wordquarry.carryrules import CarryRule, plain_carry
from wordquarry.disks import Disk
from wordquarry.errors import (BadNumber, Broken, Crashed, Merging, NoField, NoFile, NoPaper, NotMerging, TakenKey,
                               TornFile)
from wordquarry.indexlists import IndexList, list_from, segment_files
from wordquarry.mergerules import MergeRule
from wordquarry.plans import Plan
from wordquarry.protocols import CommitProtocol, plain_protocol
from wordquarry.seals import marked_from, sealed
from wordquarry.segments import segment_of
from wordquarry.stores import Store, plain_rule

PLAN = Plan({"title": Analyzer("cut letters\nfold capitals"), "body": Analyzer("cut all\ndrop the")})
WORDS = ("cat", "Cat", "dog", "the", "a-b", "x")
KEYS = ("k1", "k2", "k3", "k4", "k5")
RULES = ("levels 1 2\nmerge 2\ndead 1 3", "levels 1 3\nmerge 3", "levels 1 2\nmerge 3\ncap 2\ndead 1 1")
DEEDS = ("put", "put", "put", "put", "drop", "exchange", "flush", "flush", "reader", "begin", "begin_any", "end", "end", "give_up", "merge",
         "commit", "commit", "rollback", "open")


def drawn_fields(pick):
    return {field: " ".join(pick.choice(WORDS) for _ in range(pick.randint(0, 4))) for field in PLAN.fields if pick.random() < 0.8}


class PlainStore:
    """What a store has, as a dict, with a plain ledger for its segments."""

    def __init__(self, carry, rule):
        self.carry, self.rule = carry, rule
        self.kept = ((), (), {})
        self.commits = self.counter = 0
        self.go_back()

    def go_back(self):
        """As the last commit kept it: (papers of segments with marks, file numbers)."""
        rows, names, papers = self.kept
        self.papers = dict(papers)
        self.ledger = PlainLedger(self.carry)
        self.texts = {}
        self.names = {}
        for (segment, marks), name in zip(rows, names):
            number = self.ledger.open_segment([key for key, _ in segment], marks)
            self.texts[number] = segment
            self.names[number] = name
        self.waiting = {}
        self.copied = None

    def put(self, key, fields):
        self.ledger.put(key)
        self.waiting[self.ledger.place] = (key, fields)
        self.papers[key] = fields

    def drop(self, key):
        self.ledger.drop(key)
        del self.papers[key]

    def exchange(self, key, fields):
        self.ledger.exchange(key)
        self.waiting[self.ledger.place] = (key, fields)
        del self.papers[key]
        self.papers[key] = fields

    def flush(self):
        number = self.ledger.flush()
        if number is not None:
            segment = [one for one in self.ledger.row if one["number"] == number][0]
            self.texts[number] = [self.waiting[paper["place"]] for paper in segment["papers"]]

    def view(self):
        self.flush()
        return self.ledger.view()

    def begin(self, first, many):
        copied = self.ledger.begin(first, many)
        numbers = [one["number"] for one in self.ledger.row[first:first + many]]
        self.copied = [self.texts[number][at] for number, kept in zip(numbers, copied) for at in kept]

    def choose(self):
        view = self.view()
        return self.rule.choice([(len(living), len(self.texts[number]) - len(living)) for number, living in view])

    def end(self):
        number = self.ledger.end()
        if number is not None:
            self.texts[number] = self.copied

    def marks(self):
        return [tuple(at for at, paper in enumerate(one["papers"]) if paper["marked"]) for one in self.ledger.row]

    def commit(self):
        self.view()
        for one in self.ledger.row:
            if one["number"] not in self.names:
                self.names[one["number"]] = [self.counter, 0, ()]
                self.counter += 1
        for one, marks in zip(self.ledger.row, self.marks()):
            name = self.names[one["number"]]
            if name[2] != marks:
                self.names[one["number"]] = [name[0], name[1] + 1, marks]
        self.commits += 1
        numbers = [one["number"] for one in self.ledger.row]
        self.kept = (tuple((self.texts[number], marks) for number, marks in zip(numbers, self.marks())),
                     tuple(list(self.names[number]) for number in numbers), dict(self.papers))

    def files(self):
        found = {"list"}
        for number, turn, _ in self.kept[1]:
            found |= set(segment_files(number)) | ({"d{}.{}".format(number, turn)} if turn else set())
        return tuple(sorted(found))


class Histories(unittest.TestCase):

    def check(self, store, plain):
        self.assertEqual(store.all_papers(), tuple(plain.papers))
        for key, fields in plain.papers.items():
            for field in PLAN.fields:
                self.assertEqual(store.text_of(key, field), fields.get(field))
        self.assertEqual(store.sizes(), tuple((len(one["papers"]), len(marks)) for one, marks in zip(plain.ledger.row, plain.marks())))
        self.assertEqual(store.going(), plain.ledger.going[:2] if plain.ledger.going else None)

    def check_reader(self, reader, view, texts, papers=None):
        """A reader tells what a view tells; papers are all of them, where the carry rule is right."""
        if papers is not None:
            self.assertEqual(reader.papers, tuple(papers))
        ahead = 0
        living_texts = []
        self.assertEqual(len(reader.segments), len(view))
        for (number, living), (segment, told, before) in zip(view, reader.segments):
            self.assertEqual((told, before), (living, ahead))
            self.assertEqual([segment.paper(at) for at in range(segment.many)], [(key, fields) for key, fields in texts[number]])
            living_texts += [(ahead + at,) + texts[number][at] for at in living]
            ahead += segment.many
        self.assertEqual(reader.places, tuple(place for place, _, _ in living_texts))
        self.assertEqual(reader.papers, tuple(key for _, key, _ in living_texts))
        self.assertEqual((reader.many, reader.fields), (len(living_texts), PLAN.fields))
        for place, key, fields in living_texts:
            self.assertEqual(reader.paper(place), (key, fields))
            if [one for _, one, _ in living_texts].count(key) == 1:
                self.assertEqual(reader.number_of(key), place)
            for field in PLAN.fields:
                self.assertEqual(reader.text_of(place, field), fields.get(field))
                self.assertEqual(reader.length(field, place), len(PLAN.tokens(field, fields[field])) if field in fields else 0)
        for field in PLAN.fields:
            tokens = [PLAN.tokens(field, fields[field]) if field in fields else [] for _, _, fields in living_texts]
            for word in ("cat", "Cat", "the", "a", "nothing"):
                self.assertEqual(reader.stats(field, word), (len(living_texts), sum(word in [one[0] for one in lot] for lot in tokens),
                                                             sum(len(lot) for lot in tokens)))

    def deed(self, pick, store, plain, disk):
        """Does a deed on both; the store behind it."""
        kind = pick.choice(DEEDS)
        key = pick.choice(KEYS)
        fields = drawn_fields(pick)
        merging = plain.ledger.going is not None
        if kind in ("put", "exchange"):
            known = key in plain.papers
            if known == (kind == "exchange"):
                self.assertIsNone(getattr(store, kind)(key, fields))
                getattr(plain, kind)(key, fields)
            else:
                with self.assertRaises(TakenKey if kind == "put" else NoPaper):
                    getattr(store, kind)(key, {"zz": ""})
        elif kind == "drop":
            if key in plain.papers:
                self.assertIsNone(store.drop(key))
                plain.drop(key)
            else:
                with self.assertRaises(NoPaper):
                    store.drop(key)
        elif kind == "flush":
            self.assertIsNone(store.flush())
            plain.flush()
        elif kind == "reader":
            self.check_reader(store.reader(), plain.view(), plain.texts)
        elif kind in ("begin", "begin_any", "merge") and merging:
            with self.assertRaises(Merging):
                store.begin_merge() if kind != "merge" else store.merge()
        elif kind == "begin":
            choice = plain.choose()
            self.assertEqual(store.begin_merge(), choice)
            if choice is not None:
                plain.begin(*choice)
        elif kind == "begin_any":
            self.begin_any(pick, store, plain)
        elif kind == "merge":
            many = 0
            while plain.choose() is not None:
                plain.begin(*plain.choose())
                plain.end()
                many += 1
            self.assertEqual(store.merge(), many)
        elif kind in ("end", "give_up"):
            if merging and (kind == "end" or pick.random() < 0.3):
                self.assertIsNone(store.end_merge() if kind == "end" else store.give_up())
                plain.end() if kind == "end" else plain.ledger.give_up()
            elif not merging:
                with self.assertRaises(NotMerging):
                    store.end_merge() if kind == "end" else store.give_up()
        elif kind == "commit":
            plain.commit()
            self.assertEqual(store.commit(), plain.commits)
            self.check_files(disk, plain)
        elif kind == "rollback" and pick.random() < 0.4:
            self.assertIsNone(store.rollback())
            plain.go_back()
        elif kind == "open" and pick.random() < 0.4:
            if pick.random() < 0.5:
                disk.cut([at for at in range(len(disk.waiting())) if disk.may_land([at])][:1], {})
            plain.go_back()
            return Store(disk, PLAN, None, plain.carry, plain.rule)
        return store

    def begin_any(self, pick, store, plain):
        plain.flush()
        first, many = pick.choice((0, 0, 1, 2)), pick.choice((1, 2, 2, 3))
        size = len(plain.ledger.row)
        if first < size and many <= size - first:
            plain.begin(first, many)
            self.assertEqual(store.begin_merge(first, many), (first, many))
            return
        with self.assertRaises(BadNumber) as held:
            store.begin_merge(first, many)
        self.assertEqual((held.exception.what, held.exception.number), ("first", first) if first >= size else ("many", many))

    def check_files(self, disk, plain):
        self.assertEqual(disk.names, plain.files())
        told = list_from("list", disk.row("list"))
        self.assertEqual((told.commit, told.counter, told.rows), (plain.commits, plain.counter, tuple((name[0], name[1]) for name in plain.kept[1])))
        self.assertEqual(told.files, tuple(name for name in plain.files() if name != "list"))
        for (papers, marks), (number, turn, _) in zip(*plain.kept[:2]):
            rows = segment_of(papers, PLAN).told_files()
            for name in segment_files(number):
                self.assertEqual(disk.row(name), rows[name.split(".")[1]])
            if turn:
                name = "d{}.{}".format(number, turn)
                self.assertEqual(marked_from(name, disk.row(name)), (len(papers), marks))

    def test_deed_by_deed(self):
        pick = random.Random(1)
        for turn in range(60):
            carry = plain_carry() if turn % 3 else near_plain(pick)
            rule = MergeRule(pick.choice(RULES))
            disk = Disk()
            store, plain = Store(disk, PLAN, None, carry, rule), PlainStore(carry, rule)
            for _ in range(45):
                store = self.deed(pick, store, plain, disk)
                if turn % 3 == 0 and len(set(store.all_papers())) != len(store.all_papers()):
                    break
                if turn % 3 == 0:
                    # what a wrong rule keeps is not what was put
                    plain.kept = plain.kept[:2] + (dict([paper for rows, marks in plain.kept[0]
                                                         for at, paper in enumerate(rows) if at not in marks]),)
                    if list(plain.kept[2]) != [paper[0] for rows, marks in plain.kept[0] for at, paper in enumerate(rows) if at not in marks]:
                        break
                self.check(store, plain)
            if turn % 3:
                self.check_reader(store.reader(), plain.view(), plain.texts, plain.papers)

    def test_readers_stay(self):
        pick = random.Random(2)
        for _ in range(15):
            disk = Disk()
            rule = MergeRule(RULES[0])
            store, plain = Store(disk, PLAN, None, None, rule), PlainStore(plain_carry(), rule)
            readers = []
            for _ in range(40):
                store = self.deed(pick, store, plain, disk)
                if pick.random() < 0.3:
                    readers.append((store.reader(), plain.view(), dict(plain.texts), tuple(plain.papers)))
            for told in readers:
                self.check_reader(*told)


class Commits(unittest.TestCase):

    def filled(self, disk, **told):
        store = Store(disk, PLAN, **told)
        store.put("k1", {"title": "cat dog"})
        store.put("k2", {"body": "the x", "title": "dog"})
        store.flush()
        store.put("k3", {})
        return store

    def test_each_crash(self):
        """At each deed of a commit and of the recovery behind it, by stops and cuts: old or new."""
        for cut in (False, True):
            for part in (None, 0, 3):
                for deeds in range(60):
                    disk = Disk()
                    store = self.filled(disk)
                    store.commit()
                    store.drop("k2")
                    store.exchange("k1", {"title": "new"})
                    old, new = ("k1", "k2", "k3"), ("k3", "k1")
                    disk.power(deeds) if part is None else disk.power(deeds, part)
                    try:
                        self.assertEqual(store.commit(), 2)
                        done = True
                    except Crashed:
                        done = False
                        self.check_broken(store)
                    self.end(disk, cut, deeds)
                    for further in range(8):
                        disk.power(further)
                        try:
                            Store(disk, PLAN)
                        except Crashed:
                            pass
                        self.end(disk, cut, deeds + further)
                    store = Store(disk, PLAN)
                    self.assertIn(store.all_papers(), (new,) if done else (old, new))
                    self.assertEqual(store.reader().papers, store.all_papers())
                    self.assertEqual(store.text_of("k1", "title"), "new" if store.all_papers() == new else "cat dog")
                    many = store.commit()
                    self.assertEqual(many, 3 if store.all_papers() == new else 2)
                    self.assertEqual(set(disk.names) - {"list", "next"}, set(list_from("list", disk.row("list")).files))
                    if done and deeds > 40:
                        break

    def end(self, disk, cut, deeds):
        if not cut:
            disk.stop()
            return
        many = len(disk.waiting())
        places = [at for at in range(many) if (deeds >> (at % 5)) & 1]
        while not disk.may_land(places):
            places = places[:-1]
        disk.cut(places, {number: length * (deeds % 3) // 2 for number, length in disk.loose()})

    def check_broken(self, store):
        papers = store.all_papers()
        for ask in (lambda: store.put("k3", {"zz": ""}), lambda: store.exchange("no", {}), lambda: store.drop("no"), store.flush, store.reader,
                    store.begin_merge, lambda: store.begin_merge(None, 5), store.end_merge, store.give_up, store.merge, store.commit,
                    store.rollback):
            with self.assertRaises(Broken) as held:
                ask()
            self.assertEqual(held.exception.name, "store")
        self.assertEqual(store.all_papers(), papers)
        self.assertEqual(store.text_of("k3", "title"), None)
        self.assertEqual(store.sizes(), ((2, 2), (1, 0), (1, 0)))
        self.assertIsNone(store.going())
        with self.assertRaises(NoPaper):
            store.text_of("no", "zz")

    def test_files_that_were_left(self):
        """Names of files that are seen are passed over, for segments and for marks."""
        disk = Disk()
        disk.write("s0.words", ())
        disk.write("s3.papers", ())
        disk.write("d1.1", ())
        disk.write("d1.2", ())
        protocol = CommitProtocol(plain_protocol().commit, "take list\nsync names")
        store = self.filled(disk, protocol=protocol)
        self.assertEqual(store.commit(), 1)
        told = list_from("list", disk.row("list"))
        self.assertEqual((told.counter, told.rows), (3, ((1, 0), (2, 0))))
        store.drop("k2")
        store.put("k4", {})
        self.assertEqual(store.commit(), 2)
        told = list_from("list", disk.row("list"))
        self.assertEqual((told.counter, told.rows), (5, ((1, 3), (2, 0), (4, 0))))
        self.assertIn("d1.3", disk.names)
        store.drop("k1")
        store.commit()
        self.assertEqual(list_from("list", disk.row("list")).rows[0], (1, 4))
        self.assertNotIn("d1.3", disk.names)
        self.assertEqual(Store(disk, PLAN, protocol).all_papers(), ("k3", "k4"))
        # recovery of the plain protocol takes away what no list names
        self.assertEqual(Store(disk, PLAN).all_papers(), ("k3", "k4"))
        self.assertNotIn("s0.words", disk.names)

    def test_lacking_and_torn_files(self):
        disk = Disk()
        store = self.filled(disk)
        store.commit()
        store.drop("k2")
        store.commit()
        names = segment_files(0) + ("d0.1",) + segment_files(1)
        self.assertEqual(set(names) | {"list"}, set(disk.names))
        for at, name in enumerate(names):
            for further in names[at:]:
                one = disk.twin()
                if further != name:
                    one.remove(further)
                one.remove(name)
                self.fails(one, NoFile, name)
                one = disk.twin()
                if further != name:
                    one.write(further, disk.row(further) + (0,))
                one.write(name, disk.row(name)[:-1])
                self.fails(one, TornFile, name)
        one = disk.twin()
        one.write("s0.lengths", ())
        one.remove("s0.words")
        self.fails(one, NoFile, "s0.words")
        one = disk.twin()
        one.remove("d0.1")
        one.write("s0.words", (1,))
        self.fails(one, TornFile, "s0.words")
        one = disk.twin()
        one.write("d0.1", sealed(()))
        self.fails(one, TornFile, "d0.1")
        store = Store(disk, PLAN)
        store.put("k9", {})
        store.begin_merge(0, 2)
        disk.remove("s1.papers")
        with self.assertRaises(NoFile) as held:
            store.rollback()
        self.assertEqual(held.exception.name, "s1.papers")
        self.assertEqual((store.all_papers(), store.going()), (("k1", "k3", "k9"), (0, 2)))

    def fails(self, disk, kind, name):
        with self.assertRaises(kind) as held:
            Store(disk, PLAN, CommitProtocol(plain_protocol().commit, "take list"))
        self.assertEqual(held.exception.name, name)

    def test_opened_with_no_list(self):
        disk = Disk()
        disk.write("list", (1, 2))
        self.assertEqual(Store(disk, PLAN).all_papers(), ())
        store = Store(disk, PLAN, CommitProtocol(plain_protocol().commit, "take list\nwrite list"))
        self.assertEqual((store.all_papers(), store.sizes(), store.disk is disk), ((), (), True))
        self.assertEqual(disk.row("list"), IndexList(0, 0, ()).told)
        self.assertEqual(Store(disk, PLAN).commit(), 1)
        disk.power(0)
        with self.assertRaises(Crashed):
            Store(disk, PLAN)

    def test_errors_in_their_order(self):
        disk = Disk()
        store = Store(disk, PLAN)
        store.put("k", {"title": "x"})
        for ask, kind in ((lambda: store.put("k", {"zz": ""}), TakenKey), (lambda: store.put("j", {"zz": "", "yy": ""}), NoField),
                          (lambda: store.exchange("j", {"zz": ""}), NoPaper), (lambda: store.exchange("k", {"zz": "", "title": "", "yy": ""}), NoField),
                          (lambda: store.drop("j"), NoPaper), (lambda: store.text_of("j", "zz"), NoPaper), (lambda: store.text_of("k", "zz"), NoField)):
            with self.assertRaises(kind) as held:
                ask()
            if kind is NoField:
                self.assertIn(held.exception.name, ("yy", "zz"))
        with self.assertRaises(NoField) as held:
            store.exchange("k", {"zz": "", "yy": ""})
        self.assertEqual(held.exception.name, "yy")
        self.assertEqual(store.sizes(), ())
        for first, many, what in ((0, None, "many"), (None, 1, "first"), (1, 1, "first"), (0, 2, "many"), (True, 1, "first")):
            with self.assertRaises(BadNumber) as held:
                store.begin_merge(first, many)
            self.assertEqual((held.exception.what, held.exception.number), (what, first if what == "first" else many))
            # the flush stays
            self.assertEqual(store.sizes(), ((1, 0),))
        reader = store.reader()
        for ask, kind in ((lambda: reader.text_of(7, "zz"), NoField), (lambda: reader.length("zz", 7), NoField), (lambda: reader.stats("zz", "x"), NoField),
                          (lambda: reader.number_of("j"), NoPaper)):
            with self.assertRaises(kind):
                ask()
        for value in (-1, 1, None, True, "0", 0.0, [0]):
            for ask in (reader.paper, lambda number: reader.text_of(number, "title"), lambda number: reader.length("title", number)):
                with self.assertRaises(BadNumber) as held:
                    ask(value)
                self.assertEqual((held.exception.what, held.exception.number), ("number", value))

    def test_what_is_handed_in_is_copied(self):
        store = Store(Disk(), PLAN)
        fields = {"title": "cat"}
        store.put("k", fields)
        fields["title"] = "dog"
        self.assertEqual(store.text_of("k", "title"), "cat")
        store.flush()
        reader = store.reader()
        reader.paper(0)[1]["title"] = "cow"
        self.assertEqual((reader.text_of(0, "title"), store.text_of("k", "title")), ("cat", "cat"))

    def test_merges_amid_deeds(self):
        """Keys that come again while a merge is going on, and segments of which no paper is left."""
        store = Store(Disk(), PLAN)
        for key in ("a", "b", "c"):
            store.put(key, {"title": key})
            store.flush()
        self.assertEqual(store.begin_merge(0, 2), (0, 2))
        store.drop("a")
        store.put("a", {"title": "again"})
        store.exchange("b", {"title": "more"})
        self.assertEqual(store.reader().papers, ("c", "a", "b"))
        store.end_merge()
        self.assertEqual(store.reader().papers, ("c", "a", "b"))
        self.assertEqual(store.sizes(), ((2, 2), (1, 0), (2, 0)))
        self.assertEqual(store.begin_merge(0, 1), (0, 1))
        store.end_merge()
        self.assertEqual((store.sizes(), store.commit()), (((1, 0), (2, 0)), 1))
        self.assertEqual(Store(store.disk, PLAN).all_papers(), ("c", "a", "b"))

    def test_a_wrong_carry_rule(self):
        """all_papers tells what was put, readers what the ledger tells."""
        rule = CarryRule(plain_carry().text.replace("seen < packet", "stamp < packet and not stamp < packet"))
        disk = Disk()
        store = Store(disk, PLAN, carry=rule)
        store.put("a", {"title": "one"})
        store.flush()
        store.exchange("a", {"title": "two"})
        store.put("b", {})
        self.assertEqual((store.all_papers(), store.reader().papers), (("a", "b"), ("a", "a", "b")))
        self.assertEqual(store.text_of("a", "title"), "two")
        store.commit()
        self.assertEqual(Store(disk, PLAN, carry=rule).reader().papers, ("a", "a", "b"))

    def test_plain_rule(self):
        self.assertEqual(plain_rule(), MergeRule("levels 1 3\nmerge 3"))


if __name__ == "__main__":
    unittest.main()
