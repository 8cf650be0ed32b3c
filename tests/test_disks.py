"""[73], [74]: disks, held against a plain one deed by deed."""

import itertools
import random
import unittest

from wordquarry.disks import Disk
from wordquarry.errors import BadCrash, Crashed, NoFile

NAMES = ("a", "b", "c")


class PlainDisk:
    """Keeps all deeds on names since the last sync, and does them anew each time."""

    def __init__(self):
        self.files = []
        self.loose = set()
        self.base = {}
        self.deeds = []
        self.left = None
        self.part = None

    def names(self, places=None):
        names = dict(self.base)
        for at, deed in enumerate(self.deeds):
            if places is None or at in places:
                if deed[0] == "write":
                    names[deed[1]] = deed[2]
                elif deed[0] == "rename":
                    names[deed[2]] = names.pop(deed[1])
                else:
                    del names[deed[1]]
        return names

    def shared(self, one, two):
        first = set(self.deeds[one][1:3] if self.deeds[one][0] == "rename" else self.deeds[one][1:2])
        return bool(first & set(self.deeds[two][1:3] if self.deeds[two][0] == "rename" else self.deeds[two][1:2]))

    def lands(self, places):
        return all(early in places for place in places for early in range(place) if self.shared(early, place))

    def spend(self, deed, *told):
        if self.left == 0:
            part, self.part = self.part, None
            if part is not None and deed == "write":
                self.written(told[0], told[1][:part])
            raise Crashed()
        if self.left is not None:
            self.left -= 1

    def written(self, name, row):
        self.files.append(tuple(row))
        self.loose.add(len(self.files) - 1)
        self.deeds.append(("write", name, len(self.files) - 1))

    def do(self, deed, *told):
        self.spend(deed, *told)
        names = self.names()
        if deed == "write":
            self.written(*told)
        elif deed == "rename" and told[0] in names and told[0] != told[1]:
            self.deeds.append(("rename",) + told)
        elif deed == "remove" and told[0] in names:
            self.deeds.append(("remove",) + told)
        elif deed == "sync" and told[0] in names:
            self.loose.discard(names[told[0]])
        elif deed == "sync_names":
            self.base, self.deeds = names, []

    def cut(self, places, lengths):
        self.base, self.deeds = self.names(places), []
        for number, length in lengths.items():
            self.files[number] = self.files[number][:length]
        self.loose = set()
        self.left = self.part = None

    def waiting(self):
        return tuple(deed[:2] if deed[0] != "rename" else deed for deed in self.deeds)


class Disks(unittest.TestCase):

    def check(self, disk, plain):
        names = plain.names()
        self.assertEqual(disk.names, tuple(sorted(names)))
        for name in NAMES:
            if name in names:
                self.assertEqual((disk.file_of(name), disk.row(name)), (names[name], plain.files[names[name]]))
            else:
                for ask in (disk.row, disk.file_of):
                    with self.assertRaises(NoFile) as held:
                        ask(name)
                    self.assertEqual(held.exception.name, name)
        self.assertEqual(disk.waiting(), plain.waiting())
        self.assertEqual(disk.loose(), tuple((number, len(plain.files[number])) for number in sorted(plain.loose)))

    def deed(self, pick, disk, plain):
        kind = pick.choice(("write", "write", "write", "rename", "rename", "remove", "sync", "sync_names"))
        told = [pick.choice(NAMES)]
        if kind == "write":
            told.append([pick.randrange(256) for _ in range(pick.randint(0, 4))])
        if kind == "rename":
            told.append(pick.choice(NAMES))
        if kind == "sync_names":
            told = []
            if pick.random() < 0.6:
                return
        crashed = [False, False]
        for at, call in enumerate((lambda: getattr(disk, kind)(*told), lambda: plain.do(kind, *told))):
            try:
                self.assertIsNone(call())
            except Crashed:
                crashed[at] = True
        self.assertEqual(crashed[0], crashed[1])

    def test_deed_by_deed(self):
        pick = random.Random(1)
        for turn in range(250):
            disk, plain = Disk(), PlainDisk()
            for _ in range(25):
                self.deed(pick, disk, plain)
                self.check(disk, plain)
                if pick.random() < 0.1:
                    plain.left, plain.part = pick.randint(0, 3), pick.choice((None, 0, 1, 2, 9))
                    self.assertIsNone(disk.power(plain.left, plain.part) if plain.part is not None else disk.power(plain.left))
                if pick.random() < 0.05:
                    self.assertIsNone(disk.stop())
                    plain.left = plain.part = None
                if pick.random() < 0.08:
                    disk = self.twins(pick, disk, plain)
                if pick.random() < 0.1:
                    self.cut(pick, disk, plain)
                    self.check(disk, plain)

    def twins(self, pick, disk, plain):
        twin = disk.twin()
        self.check(twin, plain)
        disk.stop()
        disk.write("a", [1])
        disk.sync_names()
        disk.remove("b")
        return twin

    def cut(self, pick, disk, plain):
        many = len(plain.deeds)
        if many <= 6:
            for count in range(many + 1):
                for places in itertools.permutations(range(many), count) if many < 5 else itertools.combinations(range(many), count):
                    self.assertEqual(disk.may_land(list(places)), plain.lands(places))
        places = [at for at in range(many) if pick.random() < 0.6]
        lengths = {number: pick.randint(0, length) for number, length in disk.loose() if pick.random() < 0.7}
        for wrong in (None, 5, [(0, 1)], {-1: 0}, {True: 0}, {None: 0}, {len(plain.files): 0}, {"0": 0}):
            with self.assertRaises(BadCrash) as held:
                disk.cut([], wrong)
            self.assertEqual(held.exception.what, "files")
        for number, length in disk.loose():
            for wrong in (-1, length + 1, None, True, "0", 0.0):
                with self.assertRaises(BadCrash) as held:
                    disk.cut([], {number: wrong})
                self.assertEqual(held.exception.what, "files")
        if not plain.lands(places):
            with self.assertRaises(BadCrash) as held:
                disk.cut(places, None)
            self.assertEqual(held.exception.what, "deeds")
            places = []
        self.assertIsNone(disk.cut(places, lengths))
        plain.cut(places, lengths)

    def test_no_places(self):
        disk = Disk()
        disk.write("a", [])
        disk.write("b", [])
        for value in (None, 0, "0", [2], [-1], [0, 0], [True], [None], ["0"], {0: 1}, [[0]], [0.0], {0}, range(1)):
            self.assertFalse(disk.may_land(value))
            with self.assertRaises(BadCrash) as held:
                disk.cut(value, None)
            self.assertEqual(held.exception.what, "deeds")
        for value in ([], (), [0], (1,), [1, 0], (0, 1)):
            self.assertTrue(disk.may_land(value))
        self.assertEqual(disk.names, ("a", "b"))

    def test_known_ways(self):
        disk = Disk()
        disk.write("a", (1, 2, 3))
        disk.rename("a", "b")
        disk.write("a", (4,))
        disk.write("c", ())
        self.assertEqual(disk.waiting(), (("write", "a"), ("rename", "a", "b"), ("write", "a"), ("write", "c")))
        self.assertEqual(disk.loose(), ((0, 3), (1, 1), (2, 0)))
        self.assertTrue(disk.may_land([3, 1, 0]))
        self.assertFalse(disk.may_land([1]))
        self.assertFalse(disk.may_land([0, 2]))
        disk.rename("b", "b")
        disk.rename("z", "b")
        disk.remove("z")
        disk.sync("z")
        self.assertEqual(len(disk.waiting()), 4)
        disk.cut((0, 1), {0: 2})
        self.assertEqual((disk.names, disk.row("b"), disk.waiting(), disk.loose()), (("b",), (1, 2), (), ()))
        disk.power(1, 2)
        disk.remove("nothing")
        with self.assertRaises(Crashed):
            disk.write("b", [7, 8, 9])
        self.assertEqual((disk.row("b"), disk.file_of("b"), disk.loose()), ((7, 8), 3, ((3, 2),)))
        for call in (lambda: disk.write("d", [1]), lambda: disk.remove("b"), lambda: disk.sync_names(), lambda: disk.sync("b"),
                     lambda: disk.rename("b", "c"), lambda: disk.twin().remove("b")):
            with self.assertRaises(Crashed):
                call()
        self.assertEqual((disk.names, disk.waiting()), (("b",), (("write", "b"),)))
        disk.power(1)
        disk.sync("b")
        self.assertEqual(disk.loose(), ())
        with self.assertRaises(Crashed):
            disk.write("d", [1])
        disk.stop()
        disk.write("d", [1])
        self.assertEqual(disk.names, ("b", "d"))
        self.assertEqual((Disk().names, Disk().waiting(), Disk().loose()), ((), (), ()))


if __name__ == "__main__":
    unittest.main()
