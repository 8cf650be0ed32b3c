"""Marks: the stretches of a text by which a query is found."""

from wordquarry.errors import NoField
from wordquarry.plainlook import touched


def marks(query, plan, paper, field):
    """The stretches of the tokens of a field by which a query is found in a paper."""
    indexes = touched(query, plan, paper, field)
    if field not in plan.fields:
        raise NoField(field)
    if len(indexes) == 0:
        return ()
    tokens = plan.tokens(field, paper[field])
    return tuple(sorted(set([(tokens[index][2], tokens[index][3]) for index in indexes])))
