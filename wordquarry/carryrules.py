"""Carry rules: how drops, written down in packets, reach papers in segments that may be copied
meanwhile."""

from wordquarry.textreading import TextReader

MOST_LINES = 3
MOST_PARTS = 4
APPLY_PARTS = ("stamp < packet", "stamp <= packet", "stamp is packet", "seen < packet",
               "seen <= packet", "seen is packet")
FORGET_PARTS = ("merging", "begun < packet", "begun <= packet", "begun is packet")
PLAIN_TEXT = """flush same
apply when seen < packet
begin apply
end wait
copy stamp least seen least carry marks
forget when not merging"""


class CarryRule:
    """What a text says of packets; it never changes. The tests are tuples of lines, each a tuple of
    pairs (part, whether it has to hold)."""

    def __init__(self, text):
        reader = TextReader(text)
        reader.one_of(["flush "])
        self.flushes_next = reader.one_of(["same\n", "next\n"]) == "next\n"
        self.apply_tests = read_apply_lines(reader)
        self.begin_applies = reader.one_of(["apply\n", "wait\n"]) == "apply\n"
        reader.one_of(["end "])
        self.end_applies = reader.one_of(["apply\n", "wait\n"]) == "apply\n"
        reader.one_of(["copy stamp "])
        self.stamp = reader.one_of(["least ", "greatest ", "begun ", "next "])[:-1]
        reader.one_of(["seen "])
        self.seen = reader.one_of(["least ", "greatest ", "begun ", "now "])[:-1]
        reader.one_of(["carry "])
        self.carries = reader.one_of(["marks", "nothing"]) == "marks"
        self.forget_tests = read_forget_lines(reader)
        self.text = text

    def __eq__(self, other):
        return isinstance(other, CarryRule) and self.text == other.text

    def applies(self, packet, stamp, seen):
        """Whether a packet with a stamp applies to a segment with these numbers."""
        return any([all([part_holds(part, packet, stamp, seen) == wanted for part, wanted in line])
                    for line in self.apply_tests])

    def forgets(self, packet, begun):
        """Whether a packet is forgotten; begun is the number of the merge, None if none is
        going on."""
        return any([all([merge_part_holds(part, packet, begun) == wanted for part, wanted in line])
                    for line in self.forget_tests])


def read_apply_lines(reader):
    """Reads one to three lines of tests, and the beginning of the line behind them."""
    tests = []
    head = reader.one_of(["apply when "])
    while head != "begin ":
        tests.append(read_test(reader, APPLY_PARTS))
        reader.one_of(["\n"])
        head = reader.one_of(["apply when ", "begin "] if len(tests) < MOST_LINES else ["begin "])
    return tuple(tests)


def read_forget_lines(reader):
    """Reads up to three lines of tests, up to the end of the text."""
    tests = []
    while not reader.is_end():
        if len(tests) == MOST_LINES:
            reader.fail()
        reader.one_of(["\nforget when "])
        tests.append(read_test(reader, FORGET_PARTS))
    return tuple(tests)


def read_test(reader, parts):
    """Reads the parts of a test, up to the end of a line of the text or of the text."""
    found = []
    while True:
        wanted = True
        part = reader.one_of(("not ",) + parts)
        if part == "not ":
            wanted = False
            part = reader.one_of(parts)
        found.append((part, wanted))
        if reader.is_end() or reader.next_sign() == "\n":
            return tuple(found)
        if len(found) == MOST_PARTS:
            reader.fail()
        reader.one_of([" and "])


def part_holds(part, packet, stamp, seen):
    """Whether a part behind apply when holds."""
    name, sign, _ = part.split(" ")
    return stands_so(stamp if name == "stamp" else seen, sign, packet)


def merge_part_holds(part, packet, begun):
    """Whether a part behind forget when holds."""
    if begun is None:
        return False
    if part == "merging":
        return True
    return stands_so(begun, part.split(" ")[1], packet)


def stands_so(number, sign, packet):
    if sign == "<":
        return number < packet
    return number <= packet if sign == "<=" else number == packet


def plain_carry():
    """A rule that keeps both promises."""
    return CarryRule(PLAIN_TEXT)
