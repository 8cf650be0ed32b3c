"""The pairs of states that two machines meet. Nothing here changes what it is passed."""

from wordquarry.errors import TooMany

PAIRS = 20000


def joined_letters(one, two):
    """The letters of one machine, then the further ones of the other one."""
    named = {letter: True for letter in one.named}
    return list(one.named) + [letter for letter in two.named if letter not in named]


def met_pairs(one, two):
    """The letters of both, and the pairs of states that rows lead to, in the order they are met."""
    letters = joined_letters(one, two)
    columns = column_pairs(one, two, letters)
    pairs = [(0, 0)]
    met = {(0, 0): True}
    at = 0
    while at < len(pairs):
        first, second = one.rows[pairs[at][0]], two.rows[pairs[at][1]]
        for left, right in columns:
            pair = (first[left], second[right])
            if pair not in met:
                if len(pairs) == PAIRS:
                    raise TooMany("states", PAIRS + 1, PAIRS)
                met[pair] = True
                pairs.append(pair)
        at += 1
    return letters, pairs


def column_pairs(one, two, letters):
    """For each of the letters, and for all others, its columns in both machines."""
    left = {one.named[at]: at for at in range(len(one.named))}
    right = {two.named[at]: at for at in range(len(two.named))}
    return [(left.get(letter, len(left)), right.get(letter, len(right)))
            for letter in letters + [None]]


def pair_rows(one, two, letters, pairs):
    """The rows of the machine whose states are these pairs."""
    columns = column_pairs(one, two, letters)
    numbers = {pairs[at]: at for at in range(len(pairs))}
    return [[numbers[one.rows[first][left], two.rows[second][right]] for left, right in columns]
            for first, second in pairs]
