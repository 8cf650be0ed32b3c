"""Queries out of texts."""

from wordquarry.errors import BadWord, TooMany
from wordquarry.queries import (Best, Both, Every, Exact, Flat, Matching, Never, Phrase, Some,
                                Weighed, Without)
from wordquarry.queryreading import QueryReader
from wordquarry.signs import is_name, is_text

MOST_QUERIES = 120
MOST_DEPTH = 12


def read_query(text, field):
    """The query of a text; a leaf without a name is asked in the field."""
    if not is_text(text):
        raise BadWord("text")
    if not is_name(field):
        raise BadWord("field")
    reader = QueryReader(text, field)
    reader.read()
    if reader.is_wrong or reader.lacks != "":
        reader.fail()
    query = made_query(reader.program)
    if query.size > MOST_QUERIES:
        raise TooMany("queries", query.size, MOST_QUERIES)
    if query.depth > MOST_DEPTH:
        raise TooMany("depth", query.depth, MOST_DEPTH)
    return query


def made_query(program):
    """The query that a program makes, from the inside out and from left to right."""
    made = []
    for deed in program:
        if deed[0] in ("both", "some", "best"):
            queries = made[len(made) - deed[1]:]
            made = made[:len(made) - deed[1]]
            made.append(made_list(deed, queries))
        elif deed[0] == "without":
            made.append(Without(made.pop()))
        elif deed[0] == "weighed":
            made.append(Weighed(made.pop(), deed[1]))
        elif deed[0] == "flat":
            made.append(Flat(made.pop(), deed[1]))
        else:
            made.append(made_leaf(deed))
    return made[0]


def made_list(deed, queries):
    if deed[0] == "both":
        return Both(queries)
    if deed[0] == "some":
        return Some(queries, deed[2])
    return Best(queries, deed[2])


def made_leaf(deed):
    if deed[0] == "phrase":
        return Phrase(deed[1], deed[2], deed[3])
    if deed[0] == "exact":
        return Exact(deed[1], deed[2])
    if deed[0] == "matching":
        return Matching(deed[1], deed[2])
    return Every() if deed[0] == "every" else Never()


def goes_on(text):
    """The first shortest text that ends a text, None if no text of the right form begins so."""
    if not is_text(text):
        raise BadWord("text")
    reader = QueryReader(text, "body")
    reader.read()
    return None if reader.is_wrong else reader.lacks
