"""What a block keeps for scores: the pairs (count, length) that no other one beats."""

from wordquarry.shares import Share


def best_pairs(pairs):
    """The pairs that no other one beats, each once, by ascending counts."""
    found = []
    for pair in sorted(pairs, key=lambda row: (-row[0], row[1])):
        if len(found) == 0 or pair[1] < found[-1][1]:
            found.append((pair[0], pair[1]))
    return tuple(found[::-1])


def telling_score(pair):
    """The score function that is 1 for counts and lengths at least as good as these, otherwise 0."""
    count, length = pair

    def score(many, long):
        return Share(1 if many >= count and long <= length else 0)

    return score
