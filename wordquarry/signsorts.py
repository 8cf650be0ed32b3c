"""Sorts of signs that some analyzers treat alike; two of each sort are enough to tell texts apart.

With two groups of unlike signs of a sort each difference can be had; and the first text has the
first signs of the sort."""

from wordquarry.cutrules import kind_of
from wordquarry.signs import CAPITALS, SMALL, all_signs

ENOUGH = 2
OUTSIDE = 0
LEFT_OUT = 1
SAME = 2
OTHER_SIGN = 3


def telling_signs(rules, words):
    """The signs, ascending, that are enough; those of some further words are told apart, too."""
    fixed = {sign: True for word in words for sign in word}
    for rule in rules:
        for sign in signs_of_rule(rule):
            fixed[sign] = True
    kept = dict(fixed)
    many = {}
    for unit in units(rules):
        if not any([sign in fixed for sign in unit]):
            sort = tuple([sort_of(sign, rules) for sign in unit])
            many[sort] = many.get(sort, 0) + 1
        if any([sign in fixed for sign in unit]) or many[sort] <= ENOUGH:
            for sign in unit:
                kept[sign] = True
    return "".join([sign for sign in all_signs() if sign in kept])


def units(rules):
    """The signs, each alone; but a letter with its capital if some rule makes one the other."""
    if not any([rule.folds_capitals for rule in rules]):
        return list(all_signs())
    pairs = [SMALL[at] + CAPITALS[at] for at in range(len(SMALL))]
    return pairs + [sign for sign in all_signs() if sign not in SMALL + CAPITALS]


def sort_of(sign, rules):
    """What all rules do with a sign that none of them names."""
    sort = [kind_of(sign)]
    for rule in rules:
        if sign not in rule.images:
            sort.append(OUTSIDE)
        elif rule.images[sign] == "":
            sort.append(LEFT_OUT)
        else:
            sort.append(SAME if rule.images[sign] == sign else OTHER_SIGN)
    return tuple(sort)


def signs_of_rule(rule):
    """The signs that stand in words and ends, and those that fold names."""
    signs = rule.folded
    for step in rule.steps:
        if step[0] == "ends":
            signs += "".join([end + put for end, put, _ in step[1]])
        elif step[0] in ("told", "also"):
            signs += "".join(step[-1])
    return signs
