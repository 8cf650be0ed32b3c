"""[77] to [79]: runs of protocols, held against a plain player, and what cannot come."""

import random
import unittest

from tests.plainruns import GOOD, PROMISES, PlainRun, drawn_run, drawn_texts, spoilt
from wordquarry.errors import BadCrash, BadText
from wordquarry.indexlists import IndexList
from wordquarry.protocolruns import play_run
from wordquarry.protocols import CommitProtocol, plain_protocol
from wordquarry.seals import sealed

FULL = (None, 0, None)


def drawn_protocol(pick):
    if pick.random() < 0.5:
        return CommitProtocol(*["\n".join(lines) for lines in drawn_texts(pick, 7)])
    protocol = CommitProtocol(*pick.choice(GOOD[:3]))
    for _ in range(pick.randint(0, 3)):
        try:
            protocol = spoilt(pick, protocol.commit, protocol.recovery)
        except BadText:
            pass
    return protocol


class Runs(unittest.TestCase):

    def test_drawn_runs(self):
        pick = random.Random(1)
        met = {}
        for _ in range(60):
            protocol = drawn_protocol(pick)
            for _ in range(25):
                run, plain = drawn_run(pick, protocol)
                promise, disk = play_run(protocol, run)
                where = (protocol.commit, protocol.recovery, run)
                self.assertEqual(promise, plain.promise, where)
                self.assertEqual(disk.names, tuple(sorted(plain.seen)), where)
                for name in disk.names:
                    self.assertEqual(disk.row(name), plain.files[plain.seen[name]][0], where)
                self.assertEqual(len(disk.waiting()), len(plain.deeds), where)
                self.assertEqual([number for number, _ in disk.loose()],
                                 [number for number in range(len(plain.files)) if plain.files[number][1]], where)
                met[promise] = met.get(promise, 0) + 1
        self.assertEqual(set(met), set(PROMISES) | {None})

    def breaks(self, commit, recovery, run, promise):
        """The last event breaks a promise, and what stands behind is not looked at."""
        protocol = CommitProtocol(commit, recovery)
        self.assertEqual(play_run(protocol, run[:-1])[0], None)
        for behind in ((), (("nothing",),), (None, 5)):
            self.assertEqual(play_run(protocol, tuple(run) + behind)[0], promise)

    def test_one_line_spoilt(self):
        commit, recovery = GOOD[0]
        one = ("commit", 1, 0) + FULL
        back = ("recovery",) + FULL
        self.breaks(commit.replace("sync new\n", ""), recovery, [one, ("cut", (), ((0, 2),)), back], "whole")
        self.breaks(commit.replace("sync names\nrename", "rename"), recovery,
                    [one, ("commit", 1, 0, 5, 0, None), ("cut", (1, 2), ()), back], "whole")
        self.breaks(commit.replace("list\nsync names", "list"), recovery, [one, ("cut", (), ()), back], "found")
        self.breaks(commit.replace("list\nsync names", "list"), recovery, [one, one, ("cut", (), ()), back], "kept")
        self.breaks(commit.replace("sync names\ntell", "tell\nsync names"), recovery,
                    [one, ("commit", 0, 0, 7, 0, None), ("cut", (), ()), back], "kept")
        self.breaks(commit.replace("\nremove dropped", ""), recovery, [one, ("commit", 0, 1) + FULL], "clean")
        self.breaks("remove dropped\n" + commit.replace("\nremove dropped", ""), recovery,
                    [one, ("commit", 0, 1, 1, 0, None), ("stop",), back], "whole")
        self.breaks("tell\n" + commit.replace("tell\n", ""), recovery, [("commit", 1, 0) + FULL], "whole")
        self.breaks("write list\ntell", recovery, [("commit", 0, 0) + FULL, ("commit", 0, 0, 0, 0, 3), ("stop",), back], "found")
        self.breaks(commit, "take list\nsync names", [("commit", 1, 0, 1, 0, None), ("stop",), back, one], "fresh")
        self.breaks(commit, "take list\nsync names", [("commit", 1, 0, 0, 0, 1), ("stop",), back, ("commit", 0, 0) + FULL], "clean")
        self.breaks(commit, "take next list\nsync names\nremove stray",
                    [one, one, ("commit", 1, 0, 4, 0, None), ("cut", (1,), ()), back], "whole")

    def test_the_first_of_two_at_once(self):
        """Nothing is whole where two commits were told: found is told ahead of kept."""
        run = [("commit", 0, 0) + FULL, ("stop",), ("recovery",) + FULL]
        self.breaks("tell", "take list", run, "found")
        self.breaks("tell\nwrite list", "take list\nwrite back", [("stop",), ("recovery",) + FULL, ("commit", 0, 0, 1, 0, None)] + run[1:],
                    "found")

    def test_rows(self):
        protocol = plain_protocol()
        run = [("commit", 11, 0) + FULL] + [("commit", 0, 0) + FULL] * 258 + [("commit", 1, 2) + FULL]
        promise, disk = play_run(protocol, run)
        self.assertIsNone(promise)
        # the least names are dropped first
        self.assertEqual(disk.names, tuple(sorted(["f%d" % at for at in (11, 2, 3, 4, 5, 6, 7, 8, 9)] + ["f10", "list"])))
        self.assertEqual(disk.row("f3"), sealed((0, 1)))
        self.assertEqual(disk.row("f11"), sealed((1, 4)))
        self.assertEqual(disk.row("list"), IndexList(260, 12, set(disk.names) - {"list"}).told)
        promise, disk = play_run(protocol, [("commit", 2, 0, 0, 1, 2), ("stop",)])
        self.assertEqual((promise, disk.row("f0"), disk.row("f1")), (None, sealed((0, 1)), sealed((0, 1))[:2]))
        promise, disk = play_run(protocol, [("commit", 2, 0, 0, 2, None), ("stop",), ("recovery", 2, 1, None)])
        self.assertEqual((promise, disk.names), (None, ("f1",)))

    def test_the_disk_at_the_breach(self):
        promise, disk = play_run(CommitProtocol("write new\nwrite list\nwrite new\ntell", "take list"), [("commit", 2, 0) + FULL])
        self.assertEqual((promise, disk.names), ("fresh", ("f0", "f1", "list")))
        promise, disk = play_run(CommitProtocol("write new\ntell\nremove list", "take list"),
                                 [("commit", 0, 0) + FULL, ("stop",), ("recovery", 1, 0, None), ("stop",)])
        self.assertEqual((promise, disk.waiting()), ("found", ()))


class Crashes(unittest.TestCase):

    def refused(self, run, what, protocol=None):
        with self.assertRaises(BadCrash) as held:
            play_run(protocol if protocol else plain_protocol(), run)
        self.assertEqual(held.exception.what, what, run)

    def test_places(self):
        one, part = ("commit", 1, 0) + FULL, ("commit", 1, 0, 2, 0, None)
        back, some = ("recovery",) + FULL, ("recovery", 1, 0, None)
        stop, cut = ("stop",), ("cut", (), ())
        for run in ((), (stop,), (cut,), (stop, stop, cut, back), (one, one, stop, back, one), (part,), (part, stop), (stop, some),
                    (stop, some, cut, some, stop, back, part, cut, cut, back)):
            self.assertIsNone(play_run(plain_protocol(), run)[0])
        for run in ((back,), (some,), (one, back), (part, one), (part, part), (part, back), (stop, one), (cut, part), (stop, back, back),
                    (stop, some, back), (stop, some, one), (one, stop, back, some)):
            self.refused(run, len(run) - 1)
            self.refused(tuple(run) + (None,), len(run) - 1)

    def test_values_that_are_no_events(self):
        for event in (None, 0, "stop", (), ["stop"], ("stop", 1), ("go",), (None,), ("commit",), ("commit", 1, 0), ("commit", 1, 0, None, 0),
                      ("commit", 1, 0, None, 0, None, 0), ("commit", -1, 0) + FULL, ("commit", True, 0) + FULL, ("commit", "1", 0) + FULL,
                      ("commit", 1, None) + FULL, ("commit", 1, -1) + FULL, ("commit", 0, 1) + FULL, ("commit", 1, 0, None, 1, None),
                      ("commit", 1, 0, None, 0, 0), ("commit", 1, 0, None, None, None), ("commit", 1, 0, 10, 0, None),
                      ("commit", 1, 0, -1, 0, None), ("commit", 1, 0, True, 0, None), ("commit", 1, 0, 0, 2, None),
                      ("commit", 1, 0, 0, 1, 0), ("commit", 1, 0, 0, -1, None), ("commit", 1, 0, 0, 0, -1), ("commit", 1, 0, 0, 0, "1"),
                      ("commit", 1, 0, 0, 0, len(sealed((0, 1))) + 1), ("commit", 1, 0, 1, 0, 0), ("commit", 1, 0, 2, 1, None),
                      ("commit", 1, 0, 2, 0, 10 ** 6), ("commit", 1, 0, 9, 0, 0), ("commit", 1, 0, 9, 1, None), ("commit", 1, 0, 4, 0, 0),
                      ("commit", 1, 0, 5, 0, 0), ("commit", 1, 0, 8, 1, None), ("cut",), ("cut", ()), ("cut", (), (), ()),
                      ("cut", [], ()), ("cut", (), {}), ("cut", None, ()), ("cut", (), ((1,),)), ("cut", (), (1,)), ("cut", (), ([0, 1],))):
            self.refused((event,), 0)
            self.refused((("stop",), ("stop",), ("recovery",) + FULL, event), 3)
        for event in (("recovery",), ("recovery", None, 0), ("recovery", None, 0, None, 0), ("recovery", None, 1, None), ("recovery", 4, 0, None),
                      ("recovery", 0, 1, None), ("recovery", 0, 0, 0), ("recovery", 1, 1, None), ("recovery", 2, 1, None),
                      ("recovery", 3, 1, None), ("recovery", 3, 0, 0), ("recovery", "1", 0, None), ("recovery", -1, 0, None)):
            self.refused((("stop",), event), 1)
        for run in (None, 5, "stop", {}):
            self.refused(run, 0)

    def test_extents_that_may_be(self):
        longest = len(sealed((0, 1)))
        for event in (("commit", 1, 0, 0, 0, longest), ("commit", 2, 0, 0, 1, 0), ("commit", 1, 0, 0, 1, None), ("commit", 3, 0, 1, 2, None),
                      ("commit", 1, 0, 2, 0, 4), ("commit", 0, 0, 0, 0, None), ("commit", 1, 0, 9, 0, None)):
            self.assertIsNone(play_run(plain_protocol(), (event, ("stop",)))[0])
        protocol = CommitProtocol("write new\ntell", "take list\nwrite list\nsync taken\nremove stray")
        left = (("commit", 3, 0, 0, 2, 1), ("stop",))
        for extent in ((1, 0, 3), (1, 0, len(IndexList(0, 0, ()).told)), (2, 0, None), (3, 3, None), (3, 0, None), (4, 0, None)):
            self.assertIsNone(play_run(protocol, left + (("recovery",) + extent,))[0])
        for extent in ((1, 0, len(IndexList(0, 0, ()).told) + 1), (2, 1, None), (3, 4, None)):
            self.refused(left + (("recovery",) + extent,), 2, protocol)

    def test_cuts(self):
        begun = ("commit", 1, 0, 1, 0, None)
        for places in ((1,), (0, 0), (-1,), ("0",), (None,), (True,), (0, 1)):
            self.refused((begun, ("cut", places, None if places == (1,) else ())), "deeds" if places != (1,) else 1)
        for lengths in (((1, 0),), ((0, -1),), ((0, 99),), ((0, None),), ((0, True),), ((None, 0),), ((False, 0),), ((0, 1), (0, 1)), (([], 0),)):
            self.refused((begun, ("cut", (), lengths)), "files")
            self.refused((begun, ("cut", (3,), lengths)), "deeds")
        self.assertEqual(play_run(plain_protocol(), (begun, ("cut", (0,), ((0, 3),))))[1].row("f0"), sealed((0, 1))[:3])


if __name__ == "__main__":
    unittest.main()
