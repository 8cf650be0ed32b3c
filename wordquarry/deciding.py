"""Queries decided for all plain papers."""

from wordquarry.fieldcases import asking_leaves, cases_of, is_true


def least_paper(cases, is_wanted):
    """A plain paper with the fewest words of the cases that are wanted, None if none is."""
    best = None
    fewest = 0
    for standing, paper in cases:
        many = sum([len(paper[field]) for field in paper])
        if (best is None or many < fewest) and is_wanted(standing):
            best = paper
            fewest = many
    return best


def found_apart(one, other, plan):
    """A least plain paper that just one of two queries finds, or None."""
    return least_paper(cases_of([one, other], plan),
                       lambda standing: is_true(one, standing) != is_true(other, standing))


def found_beyond(one, other, plan):
    """A least plain paper that the one query finds and the other one does not, or None."""
    return least_paper(cases_of([one, other], plan),
                       lambda standing: is_true(one, standing) and not is_true(other, standing))


def least_found(query, plan):
    """A least plain paper that a query finds, or None."""
    return least_paper(cases_of([query], plan), lambda standing: is_true(query, standing))


def least_missed(query, plan):
    """A least plain paper that a query does not find, or None."""
    return least_paper(cases_of([query], plan), lambda standing: not is_true(query, standing))


def idle_leaves(query, plan):
    """The told texts of the leaves that play no part in any case."""
    standings = [standing for standing, _ in cases_of([query], plan)]
    leaves = asking_leaves([query])
    return [leaf.told for field in leaves for leaf in leaves[field]
            if all([is_idle(query, leaf, standing) for standing in standings])]


def is_idle(query, leaf, standing):
    """Whether a query would hold just as well if a leaf stood and if it did not."""
    changed = dict(standing)
    changed[leaf.told] = not standing[leaf.told]
    return is_true(query, standing) == is_true(query, changed)
