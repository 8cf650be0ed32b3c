"""Texts of queries, read from left to right."""

from wordquarry.errors import BadText
from wordquarry.figures import number_of
from wordquarry.patterntexts import pattern_of
from wordquarry.shares import Share
from wordquarry.signs import BLANKS, FIGURES, is_name

OPENINGS = 20
MOST_FIGURES = 1000
WORD_BEGINS = "abcdefghijklmnopqrstuvwxyzABCDEFGHIJKLMNOPQRSTUVWXYZ0123456789_"
FURTHER_SIGNS = "./'#&$@;\\`+-?"
# What is read next: a row, a part, a core, what stands behind a core; nothing more.
ROW = 0
PART = 1
CORE = 2
BEHIND = 3
DONE = 4


class Frame:
    """What stands between brackets, or the whole text: how much of it was read."""

    def __init__(self, bracket, least, field):
        self.bracket = bracket
        self.least = least
        self.field = field
        self.named = field
        self.names = 0
        self.prefixes = []
        self.parts = 0
        self.rows = 0
        self.queries = 0


class QueryReader:
    """Reads a text; program then has what is made, each query behind those that it is made of. The
    text is wrong at the place at, or it lacks some signs, the first shortest ones."""

    def __init__(self, text, field):
        self._text = text
        self._frames = [Frame("", 0, field)]
        self._openings = 0
        self.at = 0
        self.program = []
        self.is_wrong = False
        self.lacks = ""

    def read(self):
        """Reads the text, as far as it goes."""
        wanted = ROW
        while wanted != DONE:
            if wanted == ROW:
                self._skip_blanks()
                wanted = PART
            elif wanted == BEHIND:
                wanted = self._behind_core()
            else:
                wanted = self._begin(wanted)

    def fail(self):
        """The error of the sign at which the reader stands."""
        ahead = self._text[:self.at].split("\n")
        raise BadText(len(ahead), len(ahead[-1]) + 1)

    def _next(self):
        """The next sign, empty at the end."""
        return self._text[self.at:self.at + 1]

    def _is_next(self, signs):
        return self._next() != "" and self._next() in signs

    def _skip_blanks(self):
        while self._is_next(BLANKS):
            self.at += 1

    def _stop(self, lacks):
        """No more is read: the next sign is wrong, or the text ends and lacks some signs."""
        if self._next() != "":
            self.is_wrong = True
        else:
            self.lacks = lacks
            for frame in self._frames[::-1]:
                if frame.bracket != "":
                    self.lacks = self.lacks + (">" if frame.bracket == "<" else ")")
        return DONE

    def _open(self, bracket, least):
        """Goes behind a sign that opens brackets."""
        self._openings += 1
        self._frames.append(Frame(bracket, least, self._frames[-1].named))
        self.at += 1
        return ROW

    def _begin(self, wanted):
        """Reads the beginning of a part or a core."""
        sign = self._next()
        if sign != "" and sign in "*!":
            self.program.append(("every",) if sign == "*" else ("never",))
            self.at += 1
            return BEHIND
        if sign == '"':
            return self._phrase()
        if sign == "=":
            return self._exact()
        if sign == "{":
            return self._matching()
        if sign != "" and sign in WORD_BEGINS:
            return self._word()
        if self._openings < OPENINGS:
            if sign == "(" or sign == "<":
                return self._open(sign, 0)
            if wanted == PART and sign == "-":
                return self._prefix(None)
            if wanted == PART and sign == "[":
                return self._flat()
        return self._stop("!")

    def _prefix(self, weight):
        """Goes behind the last sign of what stands ahead of a part."""
        self._openings += 1
        self._frames[-1].prefixes.append(weight)
        self.at += 1
        return PART

    def _flat(self):
        self.at += 1
        weight = self._share("]!")
        if weight is None:
            return DONE
        if self._next() != "]":
            return self._stop("]!")
        return self._prefix(weight)

    def _bare_word(self):
        """Reads a word as long as it can be."""
        begin = self.at
        while self._is_next(WORD_BEGINS) or self._is_next(FURTHER_SIGNS):
            self.at += 1
        return self._text[begin:self.at]

    def _word(self):
        """Reads a word that is a Phrase, or a name, or begins a list."""
        word = self._bare_word()
        frame = self._frames[-1]
        if self._openings < OPENINGS:
            if self._next() == ":" and is_name(word):
                self._openings += 1
                frame.names += 1
                frame.named = word
                self.at += 1
                return CORE
            if self._next() == "(" and word == "all":
                return self._open("all", 0)
            if self._next() == "(" and is_count(word):
                return self._open("of", number_of(word[:-2]))
        self.program.append(("phrase", frame.named, word, 0))
        return BEHIND

    def _phrase(self):
        text = self._quoted()
        if text is None:
            return DONE
        slop = 0
        if self._next() == "~":
            self.at += 1
            if not self._is_next(FIGURES):
                return self._stop("0")
            slop = int(self._next())
            self.at += 1
        self.program.append(("phrase", self._frames[-1].named, text, slop))
        return BEHIND

    def _quoted(self):
        """Reads a text in quotes; None if it does not end."""
        parts = []
        while self._next() == '"':
            end = self._text.find('"', self.at + 1)
            if end < 0:
                self.at = len(self._text)
                self._stop('"')
                return None
            parts.append(self._text[self.at + 1:end])
            self.at = end + 1
        return '"'.join(parts)

    def _exact(self):
        self.at += 1
        if self._next() == '"':
            word = self._quoted()
            if word is None:
                return DONE
        elif self._is_next(WORD_BEGINS):
            word = self._bare_word()
        else:
            return self._stop("0")
        self.program.append(("exact", self._frames[-1].named, word))
        return BEHIND

    def _matching(self):
        begin = self.at + 1
        end = self._text.find("}", begin)
        if end < 0:
            self.at = len(self._text)
            return self._stop("}")
        column = 0
        try:
            pattern = pattern_of(self._text[begin:end])
        except BadText as error:
            column = error.column
        if column > 0:
            self.at = begin + column - 1
            return self._stop("")
        self.program.append(("matching", self._frames[-1].named, pattern))
        self.at = end + 1
        return BEHIND

    def _share(self, behind):
        """Reads a share, behind which some signs have to come; None if it is wrong or ends."""
        if not self._is_next(FIGURES):
            self._stop("0" + behind)
            return None
        top = self._number()
        if self._next() != "/":
            return Share(top)
        self.at += 1
        if not self._is_next(FIGURES) or self._next() == "0":
            self._stop("1" + behind)
            return None
        return Share(top, self._number())

    def _number(self):
        """Reads the figures of a number, as many as it may have."""
        begin = self.at
        most = 1 if self._next() == "0" else MOST_FIGURES
        while self.at < begin + most and self._is_next(FIGURES):
            self.at += 1
        return number_of(self._text[begin:self.at])

    def _behind_core(self):
        """Reads weights, and then what tells how the query goes on."""
        frame = self._frames[-1]
        self._openings -= frame.names
        frame.names = 0
        frame.named = frame.field
        if self._next() == "^":
            self.at += 1
            weight = self._share("")
            if weight is None:
                return DONE
            self.program.append(("weighed", weight))
            return BEHIND
        begin = self.at
        self._skip_blanks()
        sign = self._next()
        if sign == "|" or sign == "," and frame.bracket in ("all", "of", "<"):
            self.at += 1
            if sign == "|":
                self._end_row()
            else:
                self._end_query()
            return ROW
        if frame.bracket != "" and sign == (">" if frame.bracket == "<" else ")"):
            return self._close()
        if sign == "" or self.at == begin:
            if sign == "" and frame.bracket == "":
                self._end_query()
            return self._stop("")
        self._end_part()
        return PART

    def _end_part(self):
        frame = self._frames[-1]
        for weight in frame.prefixes[::-1]:
            self.program.append(("without",) if weight is None else ("flat", weight))
        self._openings -= len(frame.prefixes)
        frame.prefixes = []
        frame.parts += 1

    def _end_row(self):
        self._end_part()
        frame = self._frames[-1]
        if frame.parts > 1:
            self.program.append(("both", frame.parts))
        frame.parts = 0
        frame.rows += 1

    def _end_query(self):
        self._end_row()
        frame = self._frames[-1]
        if frame.rows > 1:
            self.program.append(("some", frame.rows, 1))
        frame.rows = 0
        frame.queries += 1

    def _close(self):
        """Goes behind the sign that closes the innermost brackets."""
        self._end_query()
        frame = self._frames.pop()
        self._openings -= 1
        self.at += 1
        if frame.bracket == "all":
            self.program.append(("both", frame.queries))
        elif frame.bracket == "of":
            self.program.append(("some", frame.queries, frame.least))
        elif frame.bracket == "<":
            rest = Share(0)
            if self._next() == "+":
                self.at += 1
                rest = self._share("")
                if rest is None:
                    return DONE
            self.program.append(("best", frame.queries, rest))
        return BEHIND


def is_count(word):
    """Whether a word is a number and of."""
    figures = word[:-2]
    if word[-2:] != "of" or not 1 <= len(figures) <= MOST_FIGURES:
        return False
    if len([sign for sign in figures if sign not in FIGURES]) > 0:
        return False
    return figures == "0" or figures[0] != "0"
