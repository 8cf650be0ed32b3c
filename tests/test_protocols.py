"""[75], [76]: the texts of protocols, and how they are played on disks of any files."""

import random
import unittest

from tests.plainruns import GOOD, commit_line, drawn_texts, recovery_line
from wordquarry.disks import Disk
from wordquarry.errors import BadText, Crashed, TooMany
from wordquarry.indexlists import IndexList, list_from
from wordquarry.protocols import CommitProtocol, plain_protocol
from wordquarry.seals import sealed

COMMIT, RECOVERY = "write list\ntell", "take list"


def bad(commit, recovery):
    try:
        CommitProtocol(commit, recovery)
    except BadText as told:
        return told.line, told.column
    return None


class Texts(unittest.TestCase):

    def test_wrong_lines_of_commits(self):
        for line, column in (("", 1), (" tell", 1), ("tell ", 6), ("tell now", 6), ("write", 6), ("write ", 7), ("write  new", 7),
                             ("write new ", 11), ("write taken", 7), ("write names", 7), ("sync", 5), ("sync taken", 6), ("sync nam", 6),
                             ("rename", 7), ("rename list", 12), ("rename list list", 13), ("rename list next back", 18),
                             ("rename new list", 8), ("remove new", 8), ("remove stray", 8), ("remove dropped list", 16), ("take list", 1),
                             ("Write new", 1), ("writenew", 1), ("write\tnew", 1), ("remove list back", 13), ("sync names names", 12)):
            self.assertEqual(bad("tell\n" + line, RECOVERY), (2, column), line)
        for line in ("write new", "sync new", "remove dropped", "write list", "write next", "write back", "sync list", "sync back",
                     "rename list next", "rename back list", "remove next", "sync names"):
            self.assertIsNone(bad("tell\n" + line, RECOVERY), line)

    def test_wrong_lines_of_recovery(self):
        for line, column in (("", 1), ("take", 5), ("take ", 6), ("take list list", 11), ("take list next list", 16),
                             ("take list next back list", 21), ("take new", 6), ("sync names", 1), ("write list", 1), ("tell", 1)):
            self.assertEqual(bad(COMMIT, line), (3, column), line)
            self.assertEqual(bad(COMMIT, line + "\nsync names"), (3, column), line)
        for line, column in (("", 1), ("take list", 1), ("tell", 1), ("write new", 7), ("sync new", 6), ("remove dropped", 8),
                             ("remove", 7), ("remove stray stray", 14), ("sync taken list", 12), ("rename back", 12)):
            self.assertEqual(bad(COMMIT, "take next back list\n" + line), (4, column), line)
        for line in ("write list", "sync taken", "remove stray", "remove back", "sync next", "sync names", "rename next back"):
            self.assertIsNone(bad(COMMIT, "take next\n" + line), line)

    def test_what_is_told_behind_the_lines(self):
        self.assertEqual(bad("tell\nwrite list\ntell\ntell", "take list"), (3, 1))
        self.assertEqual(bad("write list", "take list"), (2, 1))
        self.assertEqual(bad("", "take list"), (1, 1))
        self.assertEqual(bad("", ""), (1, 1))
        self.assertEqual(bad("tell", ""), (2, 1))
        self.assertEqual(bad("tell\ntell", "tak list"), (3, 1))
        self.assertEqual(bad("write list", "take list\nsync"), (3, 5))
        self.assertEqual(bad("tell\n", "take list"), (2, 1))
        self.assertEqual(bad("tell", "take list\n"), (3, 1))
        self.assertEqual(bad(None, "take list"), (1, 1))
        self.assertEqual(bad("tell", 7), (2, 1))

    def test_many_lines(self):
        long = ["sync names"] * 15
        CommitProtocol("\n".join(long + ["tell"]), "\n".join(["take list"] + long))
        for commit, recovery, many in ((long + ["tell", "x"], ["?"] * 30, 17), (["tell"], ["?"] * 18, 18), ([""] * 40, [], 40)):
            with self.assertRaises(TooMany) as held:
                CommitProtocol("\n".join(commit), "\n".join(recovery))
            self.assertEqual((held.exception.what, held.exception.many, held.exception.limit), ("lines", many, 16))

    def test_equal(self):
        one = CommitProtocol(*GOOD[0])
        self.assertEqual((one.commit, one.recovery), GOOD[0])
        self.assertEqual(one, CommitProtocol(*GOOD[0]))
        self.assertNotEqual(one, CommitProtocol(GOOD[0][0], GOOD[1][1]))
        self.assertNotEqual(one, CommitProtocol(GOOD[1][0], GOOD[0][1]))
        self.assertNotEqual(one, GOOD[0])
        self.assertIsInstance(plain_protocol(), CommitProtocol)

    def test_drawn_faults(self):
        """The first line that goes wrong is told, whatever stands behind it."""
        pick = random.Random(1)
        for _ in range(300):
            commit, recovery = drawn_texts(pick, 6)
            self.assertIsNone(bad("\n".join(commit), "\n".join(recovery)))
            lines = [commit, recovery]
            which = pick.randrange(2)
            at = pick.randrange(len(lines[which]))
            words = lines[which][at].split(" ")
            spot = pick.randrange(len(words))
            words[spot] = pick.choice(("", "x", words[spot] + "s") if len(words) > 1 else ("x", words[spot] + "s"))
            lines[which][at] = " ".join(words)
            for own in lines:
                if own is not lines[which] and which == 0 and pick.random() < 0.5:
                    own[-1] = "?"
            self.assertEqual(bad("\n".join(commit), "\n".join(recovery)),
                             (at + 1 + which * len(commit), sum(len(word) + 1 for word in words[:spot]) + 1))


class Noted(Disk):
    """A disk that notes its deeds."""

    def __init__(self):
        Disk.__init__(self)
        self.noted = []

    def write(self, name, row):
        Disk.write(self, name, row)
        self.noted.append(("write", name, tuple(row)))

    def sync(self, name):
        Disk.sync(self, name)
        self.noted.append(("sync", name))

    def sync_names(self):
        Disk.sync_names(self)
        self.noted.append(("sync names",))

    def rename(self, one, two):
        Disk.rename(self, one, two)
        self.noted.append(("rename", one, two))

    def remove(self, name):
        Disk.remove(self, name)
        self.noted.append(("remove", name))


def wanted_deeds(lines, groups, row):
    deeds = []
    for line in lines:
        words = line.split(" ")
        if line == "sync names":
            deeds.append(("sync names",))
        elif words[0] == "rename":
            deeds.append(tuple(words))
        elif words[0] != "tell":
            named = {name: row for name in [words[1]]} if words[1] not in groups else groups[words[1]]
            for name in sorted(named):
                deeds.append((words[0], name) + ((named[name],) if words[0] == "write" else ()))
    return deeds


class Playing(unittest.TestCase):

    def test_commits(self):
        pick = random.Random(2)
        for _ in range(300):
            lines, recovery = drawn_texts(pick, 8)
            disk = Noted()
            names = pick.sample(["a", "b10", "b9", "names", "new", "dropped", "~", "Z"], 6)
            new = {name: (pick.randrange(256),) for name in names[:pick.randint(0, 3)]}
            dropped = names[3:pick.randint(3, 5)]
            for name in dropped[:1] + names[5:]:
                disk.write(name, (1,))
            disk.noted = []
            self.assertIs(CommitProtocol("\n".join(lines), recovery[0]).commit_on(disk, new, ["k"], dropped, (7, 8)), True)
            self.assertEqual(disk.noted, wanted_deeds(lines, {"new": new, "dropped": {name: 0 for name in dropped}}, (7, 8)))

    def test_recovery(self):
        pick = random.Random(3)
        met = set()
        for _ in range(500):
            lines = ["take " + " ".join(pick.sample(("list", "next", "back"), pick.randint(1, 3)))] + ["remove stray"]
            lines += [recovery_line(pick) for _ in range(pick.randint(0, 6))]
            disk = Noted()
            rows = {}
            for name in ("list", "next", "back"):
                kind = pick.choice(("lacks", "torn", "whole"))
                rows[name] = IndexList(pick.randint(1, 9), 3, pick.sample(["a", "b", "taken", "c"], 2)).told
                if kind != "lacks":
                    disk.write(name, rows[name] if kind == "whole" else rows[name][:-1])
                if kind != "whole":
                    rows[name] = None
            files = pick.sample(["a", "b", "taken", "stray", "x"], 3)
            for name in files:
                disk.write(name, ())
            disk.noted = []
            asked = []

            def files_of(row):
                asked.append(row)
                return list(list_from("list", row).files)

            seen = set(disk.names)
            told = CommitProtocol("tell", "\n".join(lines)).recover_on(disk, files_of)
            wanted = [rows[name] for name in lines[0].split(" ")[1:] if rows[name] is not None]
            self.assertEqual(told, wanted[0] if wanted else None)
            self.assertTrue(all(row == told for row in asked))
            named = list_from("list", told).files if told else ()
            row = told if told else IndexList(0, 0, ()).told
            deeds = []
            for line in lines[1:]:
                stray = {name: 0 for name in seen if name not in named and name not in ("list", "next", "back")}
                deeds += wanted_deeds([line], {"taken": {name: 0 for name in named}, "stray": stray}, row)
                if line == "remove stray":
                    seen -= set(stray)
            self.assertEqual(disk.noted, deeds)
            met.add(told is None)
        self.assertEqual(met, {True, False})

    def test_the_empty_list_that_was_written(self):
        disk = Disk()
        protocol = CommitProtocol("tell", "take back list\nwrite list")
        self.assertIsNone(protocol.recover_on(disk, lambda row: ["no"]))
        self.assertEqual(disk.row("list"), IndexList(0, 0, ()).told)
        self.assertEqual(protocol.recover_on(disk, lambda row: []), IndexList(0, 0, ()).told)

    def test_other_rows_and_ends(self):
        """Lists are told apart by their seals alone, and what a disk raises goes on."""
        disk = Disk()
        disk.write("next", sealed((1, 2)))
        self.assertEqual(CommitProtocol("tell", "take list next").recover_on(disk, lambda row: ["a"]), sealed((1, 2)))
        disk.power(1)
        with self.assertRaises(Crashed):
            CommitProtocol("write list\nsync list\ntell", "take list").commit_on(disk, {}, [], [], (1,))
        self.assertEqual(disk.names, ("list", "next"))
        disk.power(0)
        with self.assertRaises(Crashed):
            CommitProtocol("tell", "take list\nsync names").recover_on(disk, lambda row: [])

    def test_lines_of_drawers(self):
        pick = random.Random(4)
        for _ in range(50):
            self.assertIsNone(bad("tell\n" + commit_line(pick), "take list\n" + recovery_line(pick)))


if __name__ == "__main__":
    unittest.main()
