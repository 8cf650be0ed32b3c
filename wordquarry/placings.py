"""Placings of phrases: each place of a phrase gets a token of its own, as cheaply as may be.
A token is a pair (place, anything that tells it from the others there)."""


def least_cost(spots, offsets, anchor, slop):
    """The least cost of a placing whose first token is the anchor, None if it is above slop; spots
    has the tokens for each place of the phrase, ascending."""
    offers = []
    for at in range(1, len(spots)):
        target = anchor[0] + offsets[at]
        # the other places take fewer tokens than there are places: no further ones are needed
        near = nearest_tokens(spots[at], target, len(spots))
        offers.append([(abs(token[0] - target), token) for token in near if token != anchor])
    return least_sum(offers, slop)


def nearest_tokens(tokens, target, many):
    """The first many of some tokens, the nearest to a target first."""
    low = first_from(tokens, target)
    near = list(tokens[max(0, low - many):low + many])
    return sorted(near, key=lambda token: abs(token[0] - target))[:many]


def first_from(tokens, place):
    """The index of the first one of some ascending tokens that does not stand ahead of a place."""
    low = 0
    high = len(tokens)
    while low < high:
        middle = (low + high) // 2
        if tokens[middle][0] < place:
            low = middle + 1
        else:
            high = middle
    return low


def least_sum(offers, most):
    """The least sum of costs if each row of offers, pairs (cost, token) by ascending costs, gives
    one, and no token is given twice; None if it is above most."""
    if any([len(row) == 0 for row in offers]):
        return None
    floor = sum([row[0][0] for row in offers])
    if floor > most:
        return None
    if len(set([row[0][1] for row in offers])) == len(offers):
        return floor
    sums = {0: 0}
    for uses in uses_of_tokens(offers, most - floor):
        add_token(sums, uses, most)
    return sums.get((1 << len(offers)) - 1)


def uses_of_tokens(offers, slack):
    """For each token the pairs (bit of a row, cost) that cost at most so much more than the least
    of their row."""
    uses = {}
    for at in range(len(offers)):
        for cost, token in offers[at]:
            if cost - offers[at][0][0] <= slack:
                uses.setdefault(token, []).append((1 << at, cost))
    return list(uses.values())


def add_token(sums, uses, most):
    """Takes one more token: sums leads from rows that have their tokens to their least sum."""
    for rows, held in list(sums.items()):
        for bit, cost in uses:
            if rows & bit == 0 and held + cost <= most:
                if rows | bit not in sums or held + cost < sums[rows | bit]:
                    sums[rows | bit] = held + cost


def tokens_of_placings(spots, offsets, anchor, slop):
    """All tokens that are in some placing with an anchor that costs at most slop, in any order."""
    if least_cost(spots, offsets, anchor, slop) is None:
        return []
    found = [anchor]
    offers = []
    for at in range(1, len(spots)):
        target = anchor[0] + offsets[at]
        low = first_from(spots[at], target - slop)
        high = first_from(spots[at], target + slop + 1)
        near = [(abs(token[0] - target), token) for token in spots[at][low:high] if token != anchor]
        offers.append(sorted(near))
    for at in range(len(offers)):
        others = offers[:at] + offers[at + 1:]
        for cost, token in offers[at]:
            if token not in found and least_sum(without_token(others, token), slop - cost) is not None:
                found.append(token)
    return found


def without_token(offers, token):
    return [[offer for offer in row if offer[1] != token] for row in offers]
