"""Queries: trees of what is asked of a paper."""

from wordquarry.errors import BadNumber, BadWord
from wordquarry.patterns import Pattern
from wordquarry.shares import Share
from wordquarry.signs import is_integer, is_name, is_text, is_word

MOST_SLOP = 6
# What is wanted at a place of a text: a query, a row, a part, a core.
QUERY = 0
ROW = 1
PART = 2
CORE = 3


class Query:
    """What all queries have; they never change."""

    def __init__(self, told="", queries=()):
        self.fields = tuple(sorted(set([field for query in queries for field in query.fields])))
        self.size = 1 + sum([query.size for query in queries])
        self.depth = 1 + max([query.depth for query in queries], default=0)
        self.told = told

    def __eq__(self, other):
        return isinstance(other, Query) and self.told == other.told


class Phrase(Query):
    """The tokens of a text stand in a field, moved by at most slop steps."""

    def __init__(self, field, words, slop=0):
        check_field(field)
        if not is_text(words):
            raise BadWord("text")
        if not is_integer(slop) or not 0 <= slop <= MOST_SLOP:
            raise BadNumber("slop", slop)
        told = field + ":" + quoted(words)
        super().__init__(told if slop == 0 else told + "~" + str(slop))
        self.field = field
        self.words = words
        self.slop = slop
        self.fields = (field,)

    def __eq__(self, other):
        return isinstance(other, Phrase) and self.told == other.told


class Exact(Query):
    """A token of a field is just a word."""

    def __init__(self, field, word):
        check_field(field)
        if not is_word(word):
            raise BadWord("word")
        super().__init__(field + ":=" + quoted(word))
        self.field = field
        self.word = word
        self.fields = (field,)

    def __eq__(self, other):
        return isinstance(other, Exact) and self.told == other.told


class Matching(Query):
    """A pattern fits the word of a token of a field."""

    def __init__(self, field, pattern):
        check_field(field)
        if not isinstance(pattern, Pattern):
            raise BadWord("pattern")
        super().__init__(field + ":{" + pattern.text + "}")
        self.field = field
        self.pattern = pattern
        self.fields = (field,)

    def __eq__(self, other):
        return isinstance(other, Matching) and self.told == other.told


class Every(Query):
    """Holds always."""

    def __init__(self):
        super().__init__("*")

    def __eq__(self, other):
        return isinstance(other, Every)


class Never(Query):
    """Holds never."""

    def __init__(self):
        super().__init__("!")

    def __eq__(self, other):
        return isinstance(other, Never)


class Both(Query):
    """All of some queries hold."""

    def __init__(self, queries):
        self.queries = checked_queries(queries)
        if len(self.queries) == 1:
            told = "all(" + self.queries[0].told + ")"
        else:
            told = " ".join([told_where(query, PART) for query in self.queries])
        super().__init__(told, self.queries)

    def __eq__(self, other):
        return isinstance(other, Both) and self.told == other.told


class Some(Query):
    """At least so many of some queries hold."""

    def __init__(self, queries, least=1):
        self.queries = checked_queries(queries)
        if not is_integer(least) or not 1 <= least <= len(self.queries):
            raise BadNumber("least", least)
        if least == 1 and len(self.queries) > 1:
            told = " | ".join([told_where(query, ROW) for query in self.queries])
        else:
            told = str(least) + "of(" + ", ".join([query.told for query in self.queries]) + ")"
        super().__init__(told, self.queries)
        self.least = least

    def __eq__(self, other):
        return isinstance(other, Some) and self.told == other.told


class Best(Query):
    """At least one of some queries holds; the best one counts, the others by a share."""

    def __init__(self, queries, rest=0):
        self.queries = checked_queries(queries)
        self.rest = checked_share(rest, "rest")
        if self.rest.under(0) or not self.rest.at_most(1):
            raise BadNumber("rest", rest)
        told = "<" + ", ".join([query.told for query in self.queries]) + ">"
        if self.rest.top != 0:
            told = told + "+" + self.rest.written()
        super().__init__(told, self.queries)

    def __eq__(self, other):
        return isinstance(other, Best) and self.told == other.told


class Without(Query):
    """A query does not hold."""

    def __init__(self, query):
        check_query(query)
        super().__init__("-" + told_where(query, PART), (query,))
        self.query = query

    def __eq__(self, other):
        return isinstance(other, Without) and self.told == other.told


class Weighed(Query):
    """A query holds, and each score is taken times a weight."""

    def __init__(self, query, weight):
        check_query(query)
        self.weight = checked_share(weight, "weight")
        if self.weight.at_most(0):
            raise BadNumber("weight", weight)
        super().__init__(told_where(query, CORE) + "^" + self.weight.written(), (query,))
        self.query = query

    def __eq__(self, other):
        return isinstance(other, Weighed) and self.told == other.told


class Flat(Query):
    """A query holds, and each score is a weight."""

    def __init__(self, query, weight):
        check_query(query)
        self.weight = checked_share(weight, "weight")
        if self.weight.under(0):
            raise BadNumber("weight", weight)
        told = "[" + self.weight.written() + "]" + told_where(query, PART)
        super().__init__(told, (query,))
        self.query = query

    def __eq__(self, other):
        return isinstance(other, Flat) and self.told == other.told


def check_field(field):
    if not is_name(field):
        raise BadWord("field")


def check_query(query):
    if not isinstance(query, Query):
        raise BadWord("query")


def checked_queries(queries):
    """One or more queries, as a tuple."""
    if not isinstance(queries, (list, tuple)) or len(queries) == 0:
        raise BadWord("query")
    for query in queries:
        check_query(query)
    return tuple(queries)


def checked_share(value, what):
    """A share, out of a share or an integer."""
    if isinstance(value, Share):
        return value
    if not is_integer(value):
        raise BadNumber(what, value)
    return Share(value)


def quoted(text):
    return '"' + text.replace('"', '""') + '"'


def told_where(query, wanted):
    """The text of a query where a row, a part or a core is wanted."""
    return query.told if sort_of(query) >= wanted else "(" + query.told + ")"


def sort_of(query):
    """As what a query is told: a query of rows, a row of parts, a part, or a core."""
    if isinstance(query, Some) and query.least == 1 and len(query.queries) > 1:
        return QUERY
    if isinstance(query, Both) and len(query.queries) > 1:
        return ROW
    if isinstance(query, (Without, Flat)):
        return PART
    return CORE


def queries_in(query):
    """The queries of which a query is made; none for a leaf."""
    if isinstance(query, (Both, Some, Best)):
        return query.queries
    if isinstance(query, (Without, Weighed, Flat)):
        return (query.query,)
    return ()


def leaves_of(query):
    """The leaves of a query, from left to right."""
    found = []
    waiting = [query]
    while len(waiting) > 0:
        query = waiting.pop()
        below = queries_in(query)
        if len(below) == 0:
            found.append(query)
        waiting.extend(list(below[::-1]))
    return tuple(found)


def holds_by(query, stands):
    """Whether a query holds, if stands(leaf) tells of each leaf that asks a field whether it does."""
    if isinstance(query, Without):
        return not holds_by(query.query, stands)
    if isinstance(query, (Weighed, Flat)):
        return holds_by(query.query, stands)
    if isinstance(query, (Both, Some, Best)):
        many = len([one for one in query.queries if holds_by(one, stands)])
        if isinstance(query, Both):
            return many == len(query.queries)
        return many >= (query.least if isinstance(query, Some) else 1)
    if isinstance(query, (Every, Never)):
        return isinstance(query, Every)
    return stands(query)
