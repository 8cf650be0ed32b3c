"""Desks: papers, and commands that change them and ask for them."""

from wordquarry.deskcommands import CommandReader, quoted_text
from wordquarry.errors import (BadText, BadWord, NoField, NoPaper, NothingToRedo, NothingToUndo,
                               TakenKey)
from wordquarry.figures import told_number
from wordquarry.kinds import kinds
from wordquarry.marks import marks
from wordquarry.readers import Reader
from wordquarry.searching import Searcher
from wordquarry.segments import segment_of
from wordquarry.signs import is_text, lines_of


class DeskPaper:
    """A paper of a desk, and the segment that has it alone."""

    def __init__(self, key, fields, segment):
        self.key = key
        self.fields_told = fields
        self.segment = segment


class Desk:
    """Papers in the order of putting; it changes with its commands. A deed is kept as the papers
    ahead of it and behind it, in rows that are never changed."""

    def __init__(self, plan, field, scoring):
        if field not in plan.fields:
            raise NoField(field)
        self._plan = plan
        self._field = field
        self._scoring = scoring
        self._papers = ()
        self._stayed = ()
        self._done = []
        self._undone = []
        self._held_reader = None

    def done(self, line):
        """Does a command; its answer, a list of texts."""
        if not is_text(line):
            raise BadWord("line")
        told = CommandReader(line, self._field).read()
        if told[0] in ("put", "exchange", "drop", "back"):
            self._do(self._behind(told))
        elif told[0] in ("undo", "redo"):
            self._go_back_or_on(told[0])
        elif told[0] == "commit":
            self._stayed = self._papers
        elif told[0] != "merge":
            return self._answer(told)
        return []

    def _behind(self, told):
        """The papers behind a deed."""
        if told[0] == "back":
            return self._stayed
        key = told[1]
        is_known = key in [paper.key for paper in self._papers]
        if told[0] == "put" and is_known:
            raise TakenKey(key)
        if told[0] != "put" and not is_known:
            raise NoPaper(key)
        left = tuple([paper for paper in self._papers if paper.key != key])
        if told[0] == "drop":
            return left
        return left + (DeskPaper(key, told[2], segment_of([(key, told[2])], self._plan)),)

    def _do(self, papers):
        self._done.append(self._papers)
        self._undone = []
        self._show(papers)

    def _show(self, papers):
        self._papers = papers
        self._held_reader = None

    def _go_back_or_on(self, word):
        """Takes back the last deed, or does the one again that was taken back last."""
        if word == "undo":
            if len(self._done) == 0:
                raise NothingToUndo()
            self._undone.append(self._papers)
            self._show(self._done.pop())
        else:
            if len(self._undone) == 0:
                raise NothingToRedo()
            self._done.append(self._papers)
            self._show(self._undone.pop())

    def _now(self):
        """A reader of the papers of this moment."""
        if self._held_reader is None:
            self._held_reader = Reader([(paper.segment, (0,)) for paper in self._papers],
                                      self._plan.fields)
        return self._held_reader

    def _answer(self, told):
        """The answer of a command that asks."""
        searcher = Searcher(self._now(), self._plan, self._scoring)
        query = told[-1]
        if told[0] == "find":
            return searcher.found(query)
        if told[0] == "best":
            return [key + " " + score.written() for key, score in searcher.best(query, told[1])]
        if told[0] == "marks":
            number = self._now().number_of(told[1])
            stretches = marks(query, self._plan, self._now().paper(number)[1], told[2])
            return [str(start) + " " + str(end) for start, end in stretches]
        rows = kinds(self._now(), searcher.found(query), told[1])
        return [told_number(many) + " " + quoted_text(text) for text, many in rows]

    def script(self):
        """The lines that put the papers of this moment into an empty desk."""
        lines = []
        for paper in self._papers:
            parts = ["put", paper.key]
            for field in sorted(paper.fields_told):
                parts.append(field + " " + quoted_text(paper.fields_told[field]))
            lines.append(" ".join(parts))
        return "\n".join(lines)


def desk_of(text, plan, field, scoring):
    """The desk on which the lines of a text were done."""
    if not is_text(text):
        raise BadWord("text")
    desk = Desk(plan, field, scoring)
    lines = lines_of(text) if text != "" else ()
    for at in range(len(lines)):
        do_line(desk, lines[at], at + 1)
    return desk


def do_line(desk, line, number):
    """Does a line of a text, with a number that its fault tells."""
    try:
        desk.done(line)
    except BadText as error:
        raise BadText(number, error.column)
