"""Commands of desks, read from left to right.

A read command is a tuple that begins with its word; a query stands in it as the pair of its text
and the place where it begins."""

from wordquarry.errors import BadText
from wordquarry.queryreading import QueryReader
from wordquarry.querytexts import read_query
from wordquarry.signs import NAME_LENGTH, SMALL, WORD_LENGTH
from wordquarry.textreading import TextReader

MOST_BEST = 999999999
ALONE = ("undo", "redo", "merge", "commit", "back")
HEADS = ("put ", "exchange ", "drop ", "find ", "best ", "marks ", "kinds ")


class CommandReader:
    """Reads a line; field is that of bare words in queries."""

    def __init__(self, line, field):
        self._reader = TextReader(line)
        self._line = line
        self._field = field

    def read(self):
        """The command."""
        head = self._reader.one_of(HEADS + ALONE)
        if head in ALONE:
            self._check_end()
            return (head,)
        if head == "find ":
            return ("find", self._query())
        if head == "best ":
            many = self._reader.read_number(1, MOST_BEST)
            self._blank()
            return ("best", many, self._query())
        if head == "kinds ":
            name = self._name()
            self._blank()
            return ("kinds", name, self._query())
        key = self._key()
        if head == "marks ":
            self._blank()
            name = self._name()
            self._blank()
            return ("marks", key, name, self._query())
        if head == "drop ":
            self._check_end()
            return ("drop", key)
        return (head[:-1], key, self._fields())

    def _check_end(self):
        if not self._reader.is_end():
            self._reader.fail()

    def _blank(self):
        self._reader.one_of([" "])

    def _key(self):
        """Reads a piece without quotes."""
        begin = self._reader.at
        while self._reader.next_sign() not in ("", " ", "\n", '"'):
            if self._reader.at == begin + WORD_LENGTH:
                self._reader.fail()
            self._reader.go_to(self._reader.at + 1)
        return self._read_from(begin)

    def _name(self):
        begin = self._reader.at
        while self._reader.next_sign() != "" and self._reader.next_sign() in SMALL:
            if self._reader.at == begin + NAME_LENGTH:
                self._reader.fail()
            self._reader.go_to(self._reader.at + 1)
        return self._read_from(begin)

    def _read_from(self, begin):
        """What was read from a place on, at least a sign."""
        if self._reader.at == begin:
            self._reader.fail()
        return self._line[begin:self._reader.at]

    def _fields(self):
        """Reads names, unlike ones, and their texts."""
        fields = {}
        while not self._reader.is_end():
            self._blank()
            name = self._name()
            if name in fields:
                self._reader.fail()
            self._blank()
            fields[name] = self._quoted()
        return fields

    def _quoted(self):
        """Reads a text in quotes, which stand twice in it."""
        self._reader.one_of(['"'])
        parts = []
        while True:
            begin = self._reader.at
            while self._reader.next_sign() not in ("", "\n", '"'):
                self._reader.go_to(self._reader.at + 1)
            parts.append(self._line[begin:self._reader.at])
            self._reader.one_of(['"'])
            if self._reader.next_sign() != '"':
                return '"'.join(parts)
            self._reader.go_to(self._reader.at + 1)

    def _query(self):
        """Reads a query, up to the end of the line."""
        begin = self._reader.at
        end = self._line.find("\n")
        if end < 0:
            return query_of(self._line[begin:], self._field, begin)
        told = QueryReader(self._line[begin:end], self._field)
        told.read()
        raise BadText(1, 1 + (begin + told.at if told.is_wrong else end))


def query_of(text, field, begin):
    """The query of a text that begins at a place of a line."""
    try:
        return read_query(text, field)
    except BadText as error:
        raise BadText(1, error.column + begin)


def quoted_text(text):
    """A text in quotes."""
    return '"' + text.replace('"', '""') + '"'
