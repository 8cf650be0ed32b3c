"""Drawn carry rules and a plain ledger, for tests."""

from wordquarry.carryrules import CarryRule
from wordquarry.errors import BadNumber, Merging, NotMerging

APPLY = [name + sign + "packet" for name in ("stamp", "seen") for sign in (" < ", " <= ", " is ")]
FORGET = ["merging", "begun < packet", "begun <= packet", "begun is packet"]


def drawn_test(pick, parts):
    return " and ".join(pick.choice(("", "", "not ")) + pick.choice(parts) for _ in range(pick.choice((1, 1, 1, 2, 2, 4))))


def drawn_rule(pick):
    lines = ["flush " + pick.choice(("same", "next"))]
    lines += ["apply when " + drawn_test(pick, APPLY) for _ in range(pick.choice((1, 1, 2, 3)))]
    lines += ["begin " + pick.choice(("apply", "wait")), "end " + pick.choice(("apply", "wait"))]
    lines.append("copy stamp {} seen {} carry {}".format(pick.choice(("least", "greatest", "begun", "next")),
                                                         pick.choice(("least", "greatest", "begun", "now")),
                                                         pick.choice(("marks", "nothing"))))
    lines += ["forget when " + drawn_test(pick, FORGET) for _ in range(pick.choice((0, 1, 1, 2, 3)))]
    return CarryRule("\n".join(lines))


def near_plain(pick):
    """Rules that differ somewhat from the plain one."""
    lines = ["flush same", "apply when seen < packet", "begin apply", "end wait", "copy stamp least seen least carry marks",
             "forget when not merging"]
    for _ in range(pick.randint(0, 2)):
        at = pick.randrange(6)
        lines[at] = drawn_rule(pick).text.split("\n")[0] if at == 0 else {
            1: "apply when " + drawn_test(pick, APPLY), 2: "begin " + pick.choice(("apply", "wait")),
            3: "end " + pick.choice(("apply", "wait")), 5: "forget when " + drawn_test(pick, FORGET),
            4: "copy stamp {} seen {} carry {}".format(pick.choice(("least", "greatest", "begun", "next")),
                                                       pick.choice(("least", "greatest", "begun", "now")),
                                                       pick.choice(("marks", "nothing")))}[at]
    return CarryRule("\n".join(lines))


def holds(part, numbers):
    """Whether a part of a test holds, numbers having stamp, seen, begun and packet."""
    if part.startswith("not "):
        return not holds(part[4:], numbers)
    if part == "merging":
        return numbers["begun"] is not None
    name, sign, _ = part.split(" ")
    if numbers[name] is None:
        return False
    return {"<": numbers[name] < numbers["packet"], "<=": numbers[name] <= numbers["packet"],
            "is": numbers[name] == numbers["packet"]}[sign]


def any_line(text, head, numbers):
    lines = [line[len(head):] for line in text.split("\n") if line.startswith(head)]
    return any(all(holds(part, numbers) for part in line.split(" and ")) for line in lines)


class PlainLedger:
    """Papers are dicts; a segment is a dict with its papers."""

    def __init__(self, rule):
        self.text = rule.text
        self.copy = [line for line in self.text.split("\n") if line.startswith("copy")][0].split(" ")
        self.clock = self.place = self.made = 0
        self.row, self.buffer, self.dropped, self.packs = [], [], set(), []
        self.going = None

    def says(self, line):
        return line in self.text.split("\n")

    def put(self, key):
        self.place += 1
        self.buffer.append({"key": key, "place": self.place, "marked": False})

    def drop(self, key):
        self.place += 1
        self.buffer = [paper for paper in self.buffer if paper["key"] != key]
        self.dropped.add(key)

    def exchange(self, key):
        self.drop(key)
        self.place -= 1
        self.put(key)

    def segment(self, papers, stamp, seen):
        self.made += 1
        return {"number": self.made, "papers": papers, "stamp": stamp, "seen": seen}

    def open_segment(self, keys, marks):
        self.row.append(self.segment([{"key": key, "place": 0, "marked": at in marks} for at, key in enumerate(keys)], 0, 0))
        return self.made

    def flush(self):
        if not self.buffer and not self.dropped:
            return None
        self.clock += 1
        if self.dropped:
            self.packs.append((self.clock, tuple(sorted(self.dropped))))
        self.dropped = set()
        if not self.buffer:
            return None
        self.clock += self.says("flush next")
        self.row.append(self.segment(self.buffer, self.clock, self.clock))
        self.buffer = []
        return self.made

    def applied(self, segments):
        for one in segments:
            for stamp, keys in self.packs:
                if any_line(self.text, "apply when ", {"stamp": one["stamp"], "seen": one["seen"], "packet": stamp}):
                    for paper in one["papers"]:
                        paper["marked"] |= paper["key"] in keys
        for one in segments:
            one["seen"] = self.clock

    def view(self):
        self.flush()
        self.applied(self.row)
        begun = self.going[2] if self.going else None
        self.packs = [pack for pack in self.packs if not any_line(self.text, "forget when ", {"begun": begun, "packet": pack[0]})]
        return tuple((one["number"], self.living(one)) for one in self.row)

    @staticmethod
    def living(one):
        return tuple(at for at, paper in enumerate(one["papers"]) if not paper["marked"])

    def begin(self, first, many):
        if self.going:
            raise Merging()
        if type(first) is not int or not 0 <= first < len(self.row):
            raise BadNumber("first", first)
        if type(many) is not int or not 0 < many <= len(self.row) - first:
            raise BadNumber("many", many)
        if self.says("begin apply"):
            self.applied(self.row[first:first + many])
        copied = [self.living(one) for one in self.row[first:first + many]]
        self.going = (first, many, self.clock, copied)
        return tuple(copied)

    def end(self):
        if not self.going:
            raise NotMerging()
        first, many, begun, copied = self.going
        sources = self.row[first:first + many]
        if self.says("end apply"):
            self.applied(sources)
        self.going = None
        papers = [dict(one["papers"][at]) for one, kept in zip(sources, copied) for at in kept]
        self.row[first:first + many] = []
        if not papers:
            return None
        if self.copy[6] == "nothing":
            for paper in papers:
                paper["marked"] = False
        self.clock += self.copy[2] == "next"
        numbers = {"begun": begun, "next": self.clock, "now": self.clock}
        stamp = {**numbers, "least": min(one["stamp"] for one in sources), "greatest": max(one["stamp"] for one in sources)}
        seen = {**numbers, "least": min(one["seen"] for one in sources), "greatest": max(one["seen"] for one in sources)}
        self.row.insert(first, self.segment(papers, stamp[self.copy[2]], seen[self.copy[4]]))
        return self.made

    def give_up(self):
        if not self.going:
            raise NotMerging()
        self.going = None
