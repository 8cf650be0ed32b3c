"""Settled queries: one query for many that hold alike and have the same scores.

Where scores do not count, a query is settled bare, otherwise full. A full one can be scaled: each
weight in it is taken times a share, and it stays settled."""

from wordquarry.queries import (Best, Both, Every, Exact, Flat, Matching, Never, Phrase, Some,
                                Weighed, Without)
from wordquarry.shares import Share


def settled(query):
    """A query with the same papers and the same scores."""
    if isinstance(query, (Both, Some, Best)):
        return full_list(query, [settled(one) for one in query.queries])
    if isinstance(query, Weighed):
        return scaled(settled(query.query), query.weight)
    if isinstance(query, Flat):
        return full_flat(bare(query.query), query.weight)
    if isinstance(query, Without):
        return full_without(bare(query.query))
    return query


def full_flat(query, weight):
    """The Flat of a bare query."""
    if isinstance(query, Never):
        return query
    if weight.top == 0 and isinstance(query, (Every, Without)):
        return query
    return Flat(query, weight)


def full_without(query):
    """The Without of a bare query."""
    if isinstance(query, Without):
        return full_flat(query.query, Share(0))
    return plain_without(query)


def plain_without(query):
    if isinstance(query, Every):
        return Never()
    return Every() if isinstance(query, Never) else Without(query)


def full_list(query, queries):
    """A Both, a Some or a Best, of which all queries are settled."""
    if isinstance(query, Both):
        return full_both(queries)
    if isinstance(query, Best) and query.rest.top == 0:
        return full_best(queries)
    if isinstance(query, Best) and query.rest == 1:
        return full_some(queries, 1)
    if isinstance(query, Best):
        left = without_never(queries)
        return Best(in_order(left), query.rest) if len(left) > 1 else one_or_never(left)
    return full_some(queries, query.least)


def full_both(queries):
    flat = flattened_both(queries)
    if flat is None:
        return Never()
    left = united(flat, False)
    return Both(in_order(left)) if len(left) > 1 else left[0]


def full_best(queries):
    """A Best whose other queries do not count."""
    flat = []
    for query in without_never(queries):
        is_flat = isinstance(query, Best) and query.rest.top == 0
        flat.extend(list(query.queries) if is_flat else [query])
    left = united(flat, True)
    return Best(in_order(left), 0) if len(left) > 1 else one_or_never(left)


def full_some(queries, least):
    left, least = without_every(without_never(queries), least)
    if least > 1:
        return many_of(left, least, full_both(left) if least == len(left) else None)
    left = united(flattened_some(left), False)
    return Some(in_order(left), 1) if len(left) > 1 else one_or_never(left)


def many_of(queries, least, both):
    """A Some with a least above 1; both is what it is if all its queries have to hold."""
    if len(queries) < least:
        return Never()
    return both if len(queries) == least else Some(in_order(queries), least)


def flattened_both(queries):
    """The queries of a Both without those that always hold, None if one never holds."""
    flat = []
    for query in queries:
        if isinstance(query, Never):
            return None
        flat.extend(list(query.queries) if isinstance(query, Both) else [query])
    left = [query for query in flat if not isinstance(query, Every)]
    return left if len(left) > 0 else flat[:1]


def flattened_some(queries):
    """The queries of a Some with least 1, with those of its like in it."""
    flat = []
    for query in queries:
        is_flat = isinstance(query, Some) and query.least == 1
        flat.extend(list(query.queries) if is_flat else [query])
    return flat


def without_never(queries):
    return [query for query in queries if not isinstance(query, Never)]


def without_every(queries, least):
    """The queries of a Some, and its least, without those that always hold, as far as the least
    stays above 0."""
    left = []
    for query in queries:
        if least > 1 and isinstance(query, Every):
            least -= 1
        else:
            left.append(query)
    return left, least


def one_or_never(queries):
    return queries[0] if len(queries) == 1 else Never()


def in_order(queries):
    return sorted(queries, key=lambda query: query.told)


def united(queries, is_best):
    """Some full queries, of which those that are alike are one: with the sum of their weights, or
    with the greatest one."""
    bases = {}
    weights = {}
    for query in queries:
        weight = weight_of(query)
        base = query if weight.top == 0 else scaled(query, Share(1).over(weight))
        if base.told not in bases:
            bases[base.told] = base
            weights[base.told] = weight
        elif not is_best:
            weights[base.told] = weights[base.told] + weight
        elif weights[base.told].under(weight):
            weights[base.told] = weight
    return [bases[told] if weights[told].top == 0 else scaled(bases[told], weights[told])
            for told in bases]


def weight_of(query):
    """The sum of all weights in a full query: scaled, it is taken times the same share."""
    if isinstance(query, (Phrase, Exact, Matching)):
        return Share(1)
    if isinstance(query, (Weighed, Flat)):
        return query.weight
    total = Share(0)
    if isinstance(query, (Both, Some, Best)):
        for one in query.queries:
            total = total + weight_of(one)
    return total


def scaled(query, share):
    """The settled form of a full query Weighed by a share."""
    if isinstance(query, (Every, Never, Without)):
        return query
    if isinstance(query, Flat):
        return Flat(query.query, query.weight * share)
    if isinstance(query, Weighed):
        return scaled(query.query, query.weight * share)
    if isinstance(query, (Both, Some, Best)):
        queries = in_order([scaled(one, share) for one in query.queries])
        if isinstance(query, Both):
            return Both(queries)
        return Some(queries, query.least) if isinstance(query, Some) else Best(queries, query.rest)
    return query if share == 1 else Weighed(query, share)


def bare(query):
    """A query with the same papers, where scores do not count."""
    if isinstance(query, (Weighed, Flat)):
        return bare(query.query)
    if isinstance(query, Without):
        below = bare(query.query)
        return below.query if isinstance(below, Without) else plain_without(below)
    if isinstance(query, Both):
        return bare_both([bare(one) for one in query.queries])
    if isinstance(query, (Some, Best)):
        least = query.least if isinstance(query, Some) else 1
        return bare_some([bare(one) for one in query.queries], least)
    return query


def bare_both(queries):
    flat = flattened_both(queries)
    if flat is None:
        return Never()
    left = each_once(flat)
    return Both(in_order(left)) if len(left) > 1 else left[0]


def bare_some(queries, least):
    left, least = without_every(without_never(queries), least)
    if least > 1:
        return many_of(left, least, bare_both(left) if least == len(left) else None)
    left = each_once(flattened_some(left))
    for query in left:
        if isinstance(query, Every):
            return query
    return Some(in_order(left), 1) if len(left) > 1 else one_or_never(left)


def each_once(queries):
    """Some queries without those that are equal to one ahead."""
    met = {query.told: query for query in queries}
    return list(met.values())
