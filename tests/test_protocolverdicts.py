"""[80]: what is decided for all runs, held against drawn runs and against a search of its own."""

import heapq
import itertools
import random
import time
import unittest

from tests.plainruns import GOOD, PROMISES, PlainRun, drawn_run, drawn_texts, may_land, spoilt
from wordquarry.errors import BadText, BadWord
from wordquarry.protocolruns import play_run
from wordquarry.protocols import CommitProtocol, plain_protocol
from wordquarry.protocolverdicts import kept, keeps, least_run, least_runs, needless, weight_of


def drawn_protocol(pick, most=7):
    if pick.random() < 0.5:
        return CommitProtocol(*["\n".join(lines) for lines in drawn_texts(pick, most)])
    protocol = CommitProtocol(*pick.choice(GOOD[:3]))
    for _ in range(pick.randint(1, 3)):
        try:
            protocol = spoilt(pick, protocol.commit, protocol.recovery)
        except BadText:
            pass
    return protocol


def played(protocol, run):
    plain = PlainRun(protocol)
    for event in run:
        if plain.promise is None:
            plain.play(event)
    return plain


def extents(lines, groups):
    """All extents of a line by line play that ends early, and the whole one."""
    yield (None, 0, None)
    for until in range(len(lines) + 1):
        words = lines[until] if until < len(lines) else [""]
        many = groups.get(" ".join(words), 0)
        for files in range(many + 1):
            yield (until, files, None)
            if words[0] == "write" and (words[1] != "new" or files < many):
                yield (until, files, 1)


def ends_of(plain):
    """A stop, and all cuts that leave files whole or torn."""
    yield ("stop",)
    many = len(plain.deeds)
    for places in itertools.chain.from_iterable(itertools.combinations(range(many), size) for size in range(many + 1)):
        if may_land(plain.deeds, places):
            loose = [number for number in range(len(plain.files)) if plain.files[number][1]]
            for torn in itertools.product((False, True), repeat=len(loose)):
                yield ("cut", places, tuple((number, 1) for number, is_torn in zip(loose, torn) if is_torn))


def nexts(plain, run, files):
    """The events that may come next, with up to so many new and dropped files."""
    last = run[-1] if run else None
    if last is not None and last[0] in ("commit", "recovery") and last[-3] is not None:
        yield from ends_of(plain)
    elif last is not None and last[0] in ("stop", "cut"):
        own = [words for words in plain.recovery_lines]
        for until, part in [(None, None)] + [(until, part) for until in range(1, len(own) + 1) for part in (None, 1)]:
            if part is None or until < len(own) and own[until][0] == "write":
                yield ("recovery", until, 0, part)
    else:
        yield from ends_of(plain)
        held = len(plain.lists[plain.last][1])
        for new in range(files + 1):
            for dropped in range(min(held, files) + 1):
                for extent in extents(plain.commit_lines, {"write new": new, "sync new": new, "remove dropped": dropped}):
                    yield ("commit", new, dropped) + extent


class Verdicts(unittest.TestCase):

    def check_told(self, protocol):
        """The told runs break just what they should, with the weights that are told."""
        told = least_runs(protocol)
        self.assertEqual(list(told), list(PROMISES))
        where = (protocol.commit, protocol.recovery)
        self.assertEqual(kept(protocol), tuple(promise for promise in PROMISES if told[promise] is None), where)
        weights = {}
        for promise in PROMISES:
            if told[promise] is not None:
                self.assertEqual(play_run(protocol, told[promise])[0], promise, where)
                plain = played(protocol, told[promise])
                weights[promise] = weight_of(protocol, told[promise])
                self.assertEqual((plain.promise, tuple(plain.weight)), (promise, weights[promise]), where)
        return weights

    def test_against_drawn_runs(self):
        pick = random.Random(1)
        broken = dict.fromkeys(PROMISES, 0)
        for _ in range(45):
            protocol = drawn_protocol(pick)
            weights = self.check_told(protocol)
            for _ in range(120):
                run, plain = drawn_run(pick, protocol, pick.choice((1, 2, 3)))
                self.assertEqual(weight_of(protocol, run), tuple(plain.weight))
                if plain.promise is not None:
                    where = (plain.promise, run, protocol.commit, protocol.recovery)
                    self.assertIn(plain.promise, weights, where)
                    self.assertLessEqual(weights[plain.promise], tuple(plain.weight), where)
            for promise in weights:
                broken[promise] += 1
        self.assertTrue(all(broken.values()), broken)

    def test_against_all_small_runs(self):
        """All runs with up to two ends by ascending weights: the first one that breaks a promise has
        the told weight."""
        pick = random.Random(2)
        met = 0
        for turn in range(14):
            protocol = drawn_protocol(pick, 4) if turn < 8 else CommitProtocol(*["\n".join(lines) for lines in drawn_texts(pick, 3)])
            weights = self.check_told(protocol)
            found = {}
            queue = [((0, 0, 0, 0), 0, ())]
            serial = 0
            looked = 0
            while queue and looked < 600:
                weight, _, run = heapq.heappop(queue)
                plain = played(protocol, run)
                looked += 1
                if plain.promise is not None:
                    if plain.promise not in found:
                        found[plain.promise] = weight
                        self.assertLessEqual(weights[plain.promise], weight, (run, protocol.commit, protocol.recovery))
                        met += weights[plain.promise] == weight
                    continue
                for event in nexts(plain, run, 2 if len(run) < 2 else 1):
                    further = run + (event,)
                    serial += 1
                    weight = tuple(played(protocol, further).weight)
                    if weight[1] <= 2:
                        heapq.heappush(queue, (weight, serial, further))
            # whatever has less weight than all that is left has been looked at
            for promise in weights:
                if weights[promise][1] <= 2 and (not queue or weights[promise] < queue[0][0]):
                    self.assertEqual(found.get(promise), weights[promise], (protocol.commit, protocol.recovery))
        self.assertGreater(met, 10)

    def test_questions(self):
        pick = random.Random(3)
        for _ in range(10):
            protocol = drawn_protocol(pick)
            runs = least_runs(protocol)
            for promise in PROMISES:
                run = least_run(protocol, promise)
                self.assertEqual(keeps(protocol, promise), runs[promise] is None)
                self.assertEqual(run is None, runs[promise] is None)
                if run is not None:
                    self.assertIsInstance(run, tuple)
                    self.assertEqual(weight_of(protocol, run), weight_of(protocol, runs[promise]))
        for value in ("", "Found", "find", None, 0, [], ["kept"], ("kept",), {}, True):
            for ask in (keeps, least_run):
                with self.assertRaises(BadWord) as held:
                    ask(plain_protocol(), value)
                self.assertEqual(held.exception.what, "promise")

    def test_known_weights(self):
        commit, recovery = GOOD[0]
        for change, promise, weight in (
                (("sync new\n", ""), "whole", (1, 1, 1, 8)), (("sync next\n", ""), "found", (1, 1, 0, 8)),
                (("\nremove dropped", ""), "clean", (2, 0, 2, 16)), (("write new", "write new\nwrite new"), "fresh", (1, 0, 1, 2)),
                (("list\nsync names", "list"), "found", (1, 1, 0, 8))):
            protocol = CommitProtocol(commit.replace(*change), recovery)
            self.assertEqual(weight_of(protocol, least_run(protocol, promise)), weight, change)
        protocol = CommitProtocol(commit, "take list\nsync names")
        self.assertEqual(kept(protocol), ("found", "kept", "whole"))
        self.assertEqual(weight_of(protocol, least_run(protocol, "fresh")), (2, 1, 2, 4))
        self.assertEqual(weight_of(protocol, (("stop",), ("recovery", 1, 0, None), ("stop",))), (0, 2, 0, 1))
        self.assertEqual(weight_of(protocol, (("commit", 2, 0, 1, 1, None),)), (1, 0, 2, 2))
        self.assertEqual(weight_of(protocol, (("commit", 2, 0, 1, 0, None),)), (1, 0, 2, 1))
        self.assertEqual(weight_of(protocol, ()), (0, 0, 0, 0))

    def test_protocols_that_keep_everything(self):
        for texts in GOOD:
            self.assertEqual(kept(CommitProtocol(*texts)), PROMISES)
        self.assertEqual(kept(plain_protocol()), PROMISES)

    def test_needless(self):
        self.assertEqual(needless(plain_protocol()), ())
        self.assertEqual(needless(CommitProtocol(*GOOD[1])), (13, 16))
        pick = random.Random(4)
        for protocol in [drawn_protocol(pick) for _ in range(4)]:
            wanted = []
            commit, recovery = protocol.commit.split("\n"), protocol.recovery.split("\n")
            for at in range(len(commit) + len(recovery)):
                lines = [line for place, line in enumerate(commit) if place != at]
                further = [line for place, line in enumerate(recovery) if place + len(commit) != at]
                try:
                    if kept(CommitProtocol("\n".join(lines), "\n".join(further))) == kept(protocol):
                        wanted.append(at + 1)
                except BadText:
                    pass
            self.assertEqual(needless(protocol), tuple(wanted), (protocol.commit, protocol.recovery))
        self.assertEqual(needless(CommitProtocol("sync names\ntell", "take list")), (1,))

    def test_sixteen_lines(self):
        begin = time.time()
        protocol = CommitProtocol(*GOOD[3])
        self.assertEqual(needless(protocol), (3, 6, 9, 12, 13, 14, 15, 16, 18, 21, 22, 23, 24, 25, 26, 27, 28, 29, 30, 31, 32))
        pick = random.Random(5)
        for _ in range(12):
            try:
                self.check_told(spoilt(pick, *GOOD[3]))
            except BadText:
                pass
        self.assertLess(time.time() - begin, 30)


if __name__ == "__main__":
    unittest.main()
