"""Drawn protocols, and runs played by steps on a disk of dicts, for tests."""

from wordquarry.indexlists import IndexList
from wordquarry.protocols import CommitProtocol
from wordquarry.seals import sealed

LISTS = ("list", "next", "back")
PROMISES = ("found", "kept", "whole", "fresh", "clean")
GROUP_WORDS = ("new", "dropped", "taken", "stray")


def commit_line(pick):
    kind = pick.choice(("write new", "write new", "sync new", "remove dropped", "write", "write", "sync", "rename", "rename",
                        "remove", "sync names", "sync names"))
    if kind in ("write", "sync", "remove"):
        return kind + " " + pick.choice(LISTS)
    return kind if kind != "rename" else "rename " + " ".join(pick.sample(LISTS, 2))


def recovery_line(pick):
    kind = pick.choice(("write", "sync", "rename", "remove", "sync names", "sync names", "sync taken", "remove stray", "remove stray"))
    if kind in ("write", "sync", "remove"):
        return kind + " " + pick.choice(LISTS)
    return kind if kind != "rename" else "rename " + " ".join(pick.sample(LISTS, 2))


def take_line(pick):
    return "take " + " ".join(pick.sample(LISTS, pick.randint(1, 3)))


def drawn_texts(pick, most):
    commit = [commit_line(pick) for _ in range(pick.randint(0, most - 1))]
    commit.insert(pick.randint(0, len(commit)), "tell")
    return commit, [take_line(pick)] + [recovery_line(pick) for _ in range(pick.randint(0, most - 1))]


GOOD = (
    ("write new\nsync new\nwrite next\nsync next\nsync names\nrename next list\nsync names\ntell\nremove dropped",
     "take list\nsync names\nremove stray"),
    ("write new\nsync new\nsync names\nwrite next\nsync next\nsync names\nwrite list\nsync list\nsync names\ntell\nremove dropped",
     "take list next\nsync names\nwrite back\nsync back\nsync names\nrename back list\nsync names\nremove stray"),
    ("write new\nwrite next\nsync new\nsync next\nsync names\nrename next list\nsync names\ntell\nremove dropped\nwrite back\nremove back",
     "take list\nsync names\nwrite back\nsync back\nrename back next\nremove stray\nremove next"),
    ("write new\nsync new\nsync names\nwrite next\nsync next\nsync names\nrename next list\nsync names\nsync list\ntell\nremove dropped\n"
     "remove next\nremove back\nsync names\nsync list\nsync names",
     "take list\nsync list\nsync names\nremove stray\nremove next\nremove back\nsync names\nsync taken\nsync list\nsync names\n"
     "write next\nsync next\nsync names\nremove next\nsync names\nsync taken"))


def spoilt(pick, commit, recovery):
    """A protocol with one line left out, changed, moved or put in."""
    lines = [commit.split("\n"), recovery.split("\n")]
    which = pick.choice((0, 0, 1))
    own = lines[which]
    way = pick.randrange(4)
    free = [at for at in range(len(own)) if own[at] != "tell" and not own[at].startswith("take")]
    at = pick.choice(free)
    fresh = commit_line(pick) if which == 0 else recovery_line(pick)
    if way == 0 and len(own) > 1:
        del own[at]
    elif way == 1:
        own[at] = fresh
    elif way == 2:
        own.insert(pick.randint(which, len(own)), own.pop(at))
    elif len(own) < 16:
        own.insert(pick.randint(which, len(own)), fresh)
    return CommitProtocol("\n".join(lines[0]), "\n".join(lines[1]))


class Breach(Exception):
    pass


class PlainRun:
    """Files are lists [row, loose]; all deeds are kept since names were synced last."""

    def __init__(self, protocol):
        self.commit_lines = [line.split(" ") for line in protocol.commit.split("\n")]
        self.recovery_lines = [line.split(" ") for line in protocol.recovery.split("\n")]
        self.seen, self.base, self.deeds, self.files = {}, {}, [], []
        self.lists = {0: (0, {})}
        self.last, self.unsure, self.promise = 0, None, None
        self.weight = [0, 0, 0, 0]

    def row_of(self, number):
        counter, files = self.lists[number]
        return IndexList(number, counter, list(files)).told

    def do(self, deed):
        self.apply(self.seen, deed)
        self.deeds.append(deed)

    @staticmethod
    def apply(names, deed):
        if deed[0] == "write":
            names[deed[1]] = deed[2]
        elif deed[0] == "rename":
            names[deed[2]] = names.pop(deed[1])
        else:
            del names[deed[1]]

    def write(self, name, row, fresh):
        if fresh and name in self.seen:
            raise Breach("fresh")
        self.files.append([tuple(row), True])
        self.do(("write", name, len(self.files) - 1))

    def line(self, words, groups, rows):
        """Yields ahead of each single deed: the name and the row if it is a write."""
        head, word = words[0], words[-1]
        if words == ["sync", "names"]:
            yield None
            self.base, self.deeds = dict(self.seen), []
        elif head == "rename":
            yield None
            if words[1] in self.seen:
                self.do(tuple(words))
        elif head in ("write", "sync", "remove"):
            for name in groups[word]() if word in GROUP_WORDS else [word]:
                if head == "write":
                    yield name, rows[name], word == "new"
                    self.write(name, rows[name], word == "new")
                    continue
                yield None
                if name in self.seen and head == "sync":
                    self.files[self.seen[name]][1] = False
                elif name in self.seen:
                    self.do(("remove", name))

    def check(self, number):
        for name, writer in self.lists[number][1].items():
            if name not in self.seen or self.files[self.seen[name]][0] != sealed((writer // 256, writer % 256)):
                raise Breach("whole")

    def steps(self, event):
        """Yields ("line", index) ahead of each line, what line yields, and ("end",) ahead of the end."""
        if event[0] == "commit":
            number = self.weight[0]
            counter, files = self.lists[self.last]
            gone = sorted(files)[:event[2]]
            fresh = sorted("f%d" % at for at in range(counter, counter + event[1]))
            self.lists[number] = (counter + event[1], {**{name: files[name] for name in files if name not in gone},
                                                       **{name: number for name in fresh}})
            groups = {"new": lambda: fresh, "dropped": lambda: gone}
            rows = {name: sealed((number // 256, number % 256)) for name in fresh}
            rows.update({name: self.row_of(number) for name in LISTS})
            self.unsure = number
            for at, words in enumerate(self.commit_lines):
                yield "line", at
                if words == ["tell"]:
                    self.last, self.unsure = number, None
                    self.check(number)
                yield from self.line(words, groups, rows)
            yield ("end",)
            if any(name not in self.lists[self.last][1] and name not in LISTS for name in self.seen):
                raise Breach("clean")
            return
        yield "line", 0
        whole = [self.files[self.seen[name]][0] for name in self.recovery_lines[0][1:]
                 if name in self.seen and self.files[self.seen[name]][0] in [self.row_of(number) for number in self.lists]]
        if not whole and self.last:
            raise Breach("found")
        taken = [number for number in self.lists if not whole and number == 0 or whole and self.row_of(number) == whole[0]][0]
        if taken not in (self.last, self.unsure):
            raise Breach("kept")
        rows = {name: self.row_of(taken) for name in LISTS}
        own = self.lists[taken][1]
        groups = {"taken": lambda: sorted(own), "stray": lambda: sorted(name for name in self.seen if name not in own and name not in LISTS)}
        for at, words in enumerate(self.recovery_lines[1:]):
            yield "line", at + 1
            yield from self.line(words, groups, rows)
        yield ("end",)
        self.last, self.unsure = taken, None
        self.check(taken)

    def play(self, event):
        if event[0] == "stop":
            self.weight[1] += 1
        elif event[0] == "cut":
            self.weight[1] += 1
            for place in sorted(event[1]):
                self.apply(self.base, self.deeds[place])
            for number, length in event[2]:
                self.files[number][0] = self.files[number][0][:length]
            for file in self.files:
                file[1] = False
            self.seen, self.deeds = dict(self.base), []
        else:
            try:
                self.go(event)
            except Breach as told:
                self.promise = str(told)

    def go(self, event):
        until, files, part = event[-3:]
        if event[0] == "commit":
            self.weight[0] += 1
            self.weight[2] += event[1] + event[2]
        done = 0
        is_last = False
        for step in self.steps(event):
            if isinstance(step, tuple) and step[0] == "line":
                if is_last:
                    return
                is_last = step[1] == until
                if is_last and files == 0 and part is None:
                    return
                self.weight[3] += 1
                done = 0
            elif step == ("end",):
                if until is not None:
                    return
            elif is_last:
                if done == files:
                    if part is not None:
                        self.write(step[0], step[1][:part], step[2])
                    return
                done += 1


def may_land(deeds, places):
    """Whether deeds may have landed, by the words of the document."""
    names = [set(deed[1:3]) if deed[0] == "rename" else {deed[1]} for deed in deeds]
    return all(early in places for place in places for early in range(place) if names[early] & names[place])


def drawn_run(pick, protocol, most=4):
    """A run that can come, played: (run, PlainRun); it ends where a promise is broken."""
    plain = PlainRun(protocol)
    run = []
    left = False
    ended = False

    def play(event):
        run.append(event)
        plain.play(event)

    while plain.promise is None and len(run) < 3 * most:
        if left or (not ended and pick.random() < 0.15) or (ended and pick.random() < 0.1):
            play(drawn_end(pick, plain))
            left, ended = False, True
            continue
        if not ended and plain.weight[0] >= most:
            break
        extent = drawn_extent(pick, plain, ended)
        if ended:
            play(("recovery",) + extent)
        else:
            new, dropped = pick.choice((0, 1, 1, 2)), pick.randint(0, min(2, len(plain.lists[plain.last][1])))
            play(("commit", new, dropped) + fitted(extent, plain, new, dropped, pick))
        left, ended = run[-1][-3] is not None, False
    return tuple(run), plain


def drawn_extent(pick, plain, is_recovery):
    lines = plain.recovery_lines if is_recovery else plain.commit_lines
    if pick.random() < 0.5:
        return (None, 0, None)
    until = pick.randint(0, len(lines))
    part = pick.choice((0, 1, 2, None))
    if until == len(lines) or lines[until][0] != "write":
        part = None
    return (until, 0, part)


def fitted(extent, plain, new, dropped, pick):
    until, files, part = extent
    if until is None or until == len(plain.commit_lines):
        return extent
    words = plain.commit_lines[until]
    many = {"new": new, "dropped": dropped}.get(words[-1], 0)
    files = pick.randint(0, many)
    if words == ["write", "new"] and files == many:
        part = None
    return (until, files, part)


def drawn_end(pick, plain):
    if pick.random() < 0.3:
        return ("stop",)
    chance = pick.choice((0.2, 0.5, 0.8, 1))
    places = []
    for place in range(len(plain.deeds)):
        if pick.random() < chance and may_land(plain.deeds, places + [place]):
            places.append(place)
    loose = [number for number in range(len(plain.files)) if plain.files[number][1]]
    torn = [(number, pick.choice((0, 1, len(plain.files[number][0])))) for number in loose if pick.random() < 0.4]
    return ("cut", tuple(places), tuple((number, min(length, len(plain.files[number][0]))) for number, length in torn))
