"""What a rule text says: which signs make runs, where runs are parted, how words come of runs."""

from wordquarry.signs import CAPITALS, FIGURES, SMALL, row_signs
from wordquarry.wordsteps import words_after

# Kinds of signs, as parting looks at them.
OTHER_KIND = 0
SMALL_KIND = 1
CAPITAL_KIND = 2
FIGURE_KIND = 3
LETTER_KINDS = (1, 2)


class CutRule:
    """A right rule text, read."""

    def __init__(self, lines):
        self.rises = ["part", "rises"] in lines
        self.changes = ["part", "changes"] in lines
        self.images = run_images(lines)
        self.folds_capitals = ["fold", "capitals"] in lines
        self.folded = "".join([line[1] + line[2] for line in lines
                               if line[0] == "fold" and len(line) == 3])
        self.steps = told_steps(lines)

    def kind(self, sign):
        """The kind of a sign, as far as it matters where this rule parts runs."""
        kind = kind_of(sign)
        if kind == FIGURE_KIND and not self.changes:
            return OTHER_KIND
        if kind == CAPITAL_KIND and not self.rises:
            return SMALL_KIND if self.changes else OTHER_KIND
        return kind if self.changes or self.rises else OTHER_KIND

    def is_parted(self, left, right):
        """Whether a run is parted between neighbouring signs of these kinds."""
        if self.rises and left == SMALL_KIND and right == CAPITAL_KIND:
            return True
        return self.changes and (left == FIGURE_KIND and right in LETTER_KINDS
                                 or right == FIGURE_KIND and left in LETTER_KINDS)

    def runs(self, text):
        """The stretches (start, end) of the runs of a text."""
        runs = []
        start = None
        for at in range(len(text)):
            if text[at] not in self.images:
                if start is not None:
                    runs.append((start, at))
                start = None
            elif start is None:
                start = at
            elif self.is_parted(kind_of(text[at - 1]), kind_of(text[at])):
                runs.append((start, at))
                start = at
        if start is not None:
            runs.append((start, len(text)))
        return runs

    def changed(self, run):
        return "".join([self.images[sign] for sign in run])

    def words_of_run(self, run):
        """The words of a run of any length, and whether it takes a place."""
        return words_after(self.steps, self.changed(run))

    def tokens(self, text, longest):
        """The tokens of a text; runs of more than so many signs have no word (None: all have)."""
        tokens = []
        place = 0
        told = {}
        for start, end in self.runs(text):
            run = text[start:end]
            if run not in told:
                is_short = longest is None or len(run) <= longest
                told[run] = self.words_of_run(run) if is_short else ((), True)
            words, takes = told[run]
            for word in words:
                tokens.append((word, place, start, end))
            if takes:
                place += 1
        return tokens


def kind_of(sign):
    if sign in SMALL:
        return SMALL_KIND
    if sign in CAPITALS:
        return CAPITAL_KIND
    return FIGURE_KIND if sign in FIGURES else OTHER_KIND


def run_images(lines):
    """For each sign of which runs are made what the lines of changing make of it."""
    signs = ""
    pieces = lines[0]
    if "all" in pieces:
        signs = row_signs()
    if "letters" in pieces:
        signs += SMALL + CAPITALS
    if "digits" in pieces:
        signs += FIGURES
    if "signs" in pieces:
        signs += pieces[-1]
    changes = [line for line in lines if line[0] in ("fold", "leave")]
    return {sign: image_of(sign, changes) for sign in signs}


def image_of(sign, changes):
    for line in changes:
        if line[0] == "leave" and sign in line[1]:
            return ""
        if line == ["fold", "capitals"]:
            if sign in CAPITALS:
                sign = SMALL[CAPITALS.index(sign)]
        elif line[0] == "fold" and sign == line[1]:
            sign = line[2]
    return sign


def told_steps(lines):
    """The steps of a rule text, each a tuple that begins with its kind."""
    steps = []
    for at in range(len(lines)):
        line = lines[at]
        if line[0] in ("drop", "close"):
            steps.append(dropping(line))
        elif line[0] == "end" and lines[at - 1][0] != "end":
            steps.append(("ends", group_of(lines, at)))
        elif line[0] == "also":
            steps.append(("also", tuple(line[1:])))
        elif line[0] == "both":
            steps.append(("both",))
    return tuple(steps)


def dropping(line):
    closes = line[0] == "close"
    if line[1] in ("under", "over"):
        return (line[1], closes, int(line[2]))
    return ("told", closes, tuple(line[1:]))


def group_of(lines, at):
    """The group of ends that begins at a line: tuples (X, Y, N), Y being empty for off."""
    group = []
    while at < len(lines) and lines[at][0] == "end":
        line = lines[at]
        put = line[3] if line[2] == "to" else ""
        group.append((line[1], put, int(line[-1])))
        at += 1
    return tuple(group)
