"""Near rules compared for all pairs of rows.

Rows are read side by side, one sign of each in turn. Of each rule are kept the prices of the
pairs of beginnings the longer one of which has just been read, by how many signs the first one
is longer (its lead); and those of the last step from which a swap may still come. Of the signs
are kept those that may still be looked at; a blank stands for the others."""

from wordquarry.errors import TooMany
from wordquarry.signs import row_signs

STATES = 20000
GONE = " "


def unlike_pair(one, other):
    """A shortest pair of which just one of two rules says near, None if there is none."""
    return searched_pair(one, other, False)


def beyond_pair(one, other):
    """A shortest pair near by one rule and not by the other, None if there is none."""
    return searched_pair(one, other, True)


def one_way_pair(rule):
    """A shortest pair near in just one direction, None if there is none."""
    return unlike_pair(rule, rule.turned())


def searched_pair(one, other, only_beyond):
    """Goes through all that may be kept of pairs, those of one length after those of lesser ones.
    A way is a tuple: what is kept by both rules, the signs of both rows, the pair."""
    named = named_signs([one, other])
    ways = [(("", ""), ({0: 0}, {}), ({0: 0}, {}), ("", ""))]
    if one.turned() == other.turned():
        ways = []
    met = {}
    while len(ways) > 0:
        further = []
        for signs, first, second, pair in ways:
            for x, y in further_signs(signs, named):
                longer = (signs[0] + x, signs[1] + y)
                rows = (pair[0] + x, pair[1] + y)
                now = (grown(one, longer, first), grown(other, longer, second))
                lead = telling_lead(now[0][0], now[1][0], only_beyond)
                if lead is not None:
                    return rows[0][:len(rows[0]) + min(lead, 0)], rows[1][:len(rows[1]) - max(lead, 0)]
                kept = kept_signs(longer, now)
                key = state_key(kept, now, named)
                if key not in met and (may_be_near(now[0]) or not only_beyond and may_be_near(now[1])):
                    met[key] = True
                    further.append((kept, now[0], now[1], rows))
                    if len(met) > STATES:
                        raise TooMany("states", len(met), STATES)
        ways = further
    return None


def may_be_near(kept):
    """Whether any pair may still be near."""
    return len(kept[0]) + len(kept[1]) > 0


def named_signs(rules):
    """The signs that stand in changes with prices of their own."""
    named = {sign: True for rule in rules for pair in rule.own_prices for sign in pair}
    return sorted(named)


def further_signs(signs, named):
    """The pairs of next signs: named ones, those that are kept, and two others."""
    known = {sign: True for sign in named}
    for sign in signs[0] + signs[1]:
        if sign != GONE:
            known[sign] = True
    fresh = [sign for sign in row_signs() if sign not in known][:2]
    both = list(known)
    pairs = [(x, y) for x in both + fresh[:1] for y in both + fresh[:1]]
    return pairs + [(fresh[0], sign) for sign in fresh[1:]]


def grown(rule, signs, kept):
    """(prices by leads, those of the last step from which a swap may come) behind one more sign
    of each row."""
    prices, waiting = kept
    one, two = signs
    found = {}
    widest = max([abs(lead) for lead in prices], default=0) + 1
    for lead in range(widest, -1, -1):
        for sign in (-1, 1) if lead > 0 else (0,):
            costs = step_costs(rule, one, two, prices, sign * lead)
            costs.extend(put_and_drop_costs(rule, prices, found, sign * lead))
            if sign * lead in waiting and swap_fits(one, two, sign * lead):
                costs.append(waiting[sign * lead] + rule.swap)
            least = min(costs, default=rule.limit + 1)
            if least <= rule.limit:
                found[sign * lead] = least
    return found, waiting_prices(rule, one, two, prices)


def step_costs(rule, one, two, prices, lead):
    """What the pair with a lead costs if its last signs are kept or changed."""
    if lead not in prices:
        return []
    change = rule.change_price(one[-1 + min(lead, 0)], two[-1 - max(lead, 0)])
    return [] if change is None else [prices[lead] + change]


def put_and_drop_costs(rule, prices, found, lead):
    """What it costs if its last sign is put in or left out."""
    costs = []
    # the pair without the last sign of the second row has one more as its lead, the one without
    # the last sign of the first row one less; the shorter row has had its sign in this step
    put_from = prices if lead < 0 else found
    drop_from = prices if lead > 0 else found
    if rule.put_cost is not None and lead + 1 in put_from:
        costs.append(put_from[lead + 1] + rule.put_cost)
    if rule.drop_cost is not None and lead - 1 in drop_from:
        costs.append(drop_from[lead - 1] + rule.drop_cost)
    return costs


def swap_fits(one, two, lead):
    """Whether the swap that waits with a lead comes about by the last signs."""
    if lead < 0:
        return one[-2 + lead] == two[-1]
    if lead > 0:
        return two[-2 - lead] == one[-1]
    return one[-2] == two[-1] and two[-2] == one[-1]


def waiting_prices(rule, one, two, prices):
    """The prices from which a swap may come in the next step, that of the first sign being right."""
    waiting = {}
    for lead in prices:
        if rule.swap is None or prices[lead] + rule.swap > rule.limit:
            continue
        if lead < 0:
            fits = one[lead] == two[-1] and one[-1 + lead] != two[-1]
        elif lead > 0:
            fits = two[-lead] == one[-1] and two[-1 - lead] != one[-1]
        else:
            fits = one[-1] != two[-1]
        if fits:
            waiting[lead] = prices[lead]
    return waiting


def telling_lead(first, second, only_beyond):
    """The lead of a pair that the rules tell apart, or None."""
    for lead in first:
        if lead not in second:
            return lead
    if not only_beyond:
        for lead in second:
            if lead not in first:
                return lead
    return None


def kept_signs(signs, kept):
    """The signs of both rows that may still be looked at, blanks for others, none ahead."""
    needed = ({}, {})
    for prices, waiting in kept:
        for lead in prices:
            row = needed[0] if lead < 0 else needed[1]
            for back in range(1, abs(lead) + 1):
                row[back] = True
        for lead in waiting:
            if lead <= 0:
                needed[0][1 - lead] = True
            if lead >= 0:
                needed[1][1 + lead] = True
    return tuple([shown(signs[at], needed[at]) for at in range(2)])


def shown(row, needed):
    """The end of a row with blanks for what is not needed, by places from behind."""
    most = max(list(needed), default=0)
    return "".join([row[-back] if back in needed else GONE for back in range(most, 0, -1)])


def state_key(signs, kept, named):
    """What a state is, whatever the unnamed signs are."""
    known = {sign: sign for sign in named}
    known[GONE] = GONE
    told = []
    for row in signs:
        for sign in row:
            known.setdefault(sign, len(known))
        told.append(tuple([known[sign] for sign in row]))
    for part in kept:
        for prices in part:
            told.append(tuple(sorted([(lead, prices[lead]) for lead in prices])))
    return tuple(told)
