"""The least machine of a told one, as tables. Nothing here changes what it is passed."""


def least_table(named, rows, good):
    """The letters, rows and good states of the least machine that accepts the same rows."""
    order = met_order(rows, 0)
    table, column_of = met_table(rows, order)
    good_states = {state: True for state in good}
    is_good = [state in good_states for state in order]
    kinds = state_kinds(table, is_good)
    heads = first_of_each(kinds)
    kept = telling_letters(column_of, table, kinds, heads)
    by_kind = {kind: [kinds[table[heads[kind]][column_of[at]]] for at in kept + [len(named)]]
               for kind in heads}
    order_of_kinds = met_order(by_kind, kinds[0])
    numbers = {order_of_kinds[at]: at for at in range(len(order_of_kinds))}
    least_rows = tuple([tuple([numbers[kind] for kind in by_kind[one]]) for one in order_of_kinds])
    least_good = sorted([numbers[kind] for kind in heads if is_good[heads[kind]]])
    return tuple([named[at] for at in kept]), least_rows, tuple(least_good)


def met_order(rows, first):
    """The states that are met from one on, in the order in which they are met."""
    order = [first]
    met = {first: True}
    at = 0
    while at < len(order):
        for state in rows[order[at]]:
            if state not in met:
                met[state] = True
                order.append(state)
        at += 1
    return order


def met_table(rows, order):
    """The rows of the met states, each column once; and for each letter the number of its column."""
    places = {order[at]: at for at in range(len(order))}
    told = [rows[state] for state in order]
    unlike = {}
    column_of = []
    for column in list(zip(*told)):
        column_of.append(unlike.setdefault(column, len(unlike)))
    kept = [[places[state] for state in column] for column in unlike]
    return list(zip(*kept)), column_of


def state_kinds(table, is_good):
    """For each state a number: states with the same one accept the same rows from there on."""
    sources = sources_of(table)
    kinds = [1 if state_is_good else 0 for state_is_good in is_good]
    members = {0: states_of_kind(kinds, 0), 1: states_of_kind(kinds, 1)}
    sizes = {0: len(members[0]), 1: len(members[1])}
    looked_at = list(range(len(table)))
    while len(looked_at) > 0:
        moved = []
        lots = lots_by_kind(table, kinds, looked_at)
        for kind in lots:
            parts = lots[kind]
            rest = sizes[kind] - sum([len(part) for part in parts])
            # the greatest part keeps the kind, so that states move seldom
            if rest >= len(parts[-1]):
                sizes[kind] = rest
            else:
                others = others_of_kind(members[kind], kinds, kind, parts)
                members[kind] = parts[-1]
                sizes[kind] = len(parts[-1])
                parts = parts[:-1] + [others]
            for part in parts:
                if len(part) > 0:
                    fresh = len(members)
                    members[fresh] = part
                    sizes[fresh] = len(part)
                    for state in part:
                        kinds[state] = fresh
                    moved.extend(part)
        looked_at = states_before(sources, moved)
    return kinds


def states_of_kind(kinds, kind):
    return [state for state in range(len(kinds)) if kinds[state] == kind]


def sources_of(table):
    """For each state those that lead to it."""
    sources = [[] for _ in table]
    for state in range(len(table)):
        for target in sorted(set(table[state])):
            sources[target].append(state)
    return sources


def states_before(sources, moved):
    """The states from which some letter leads to one of those that moved."""
    return sorted({state for target in moved for state in sources[target]})


def lots_by_kind(table, kinds, states):
    """For each kind among some states the lots that do the same, the greatest lot last."""
    lots = {}
    for state in states:
        does = tuple([kinds[target] for target in table[state]])
        lots.setdefault((kinds[state], does), []).append(state)
    by_kind = {}
    for kind, does in lots:
        by_kind.setdefault(kind, []).append(lots[kind, does])
    return {kind: sorted(by_kind[kind], key=len) for kind in by_kind}


def others_of_kind(states, kinds, kind, parts):
    """The states that are still of a kind, without those of its parts."""
    looked_at = {state for part in parts for state in part}
    return [state for state in states if kinds[state] == kind and state not in looked_at]


def first_of_each(kinds):
    """For each kind its first state."""
    heads = {}
    for state in range(len(kinds)):
        heads.setdefault(kinds[state], state)
    return heads


def telling_letters(column_of, table, kinds, heads):
    """The letters that do not in every state what all others do."""
    others = column_of[-1]
    tells = {}
    for kind in heads:
        does = [kinds[target] for target in table[heads[kind]]]
        for column in range(len(does)):
            if does[column] != does[others]:
                tells[column] = True
    return [at for at in range(len(column_of) - 1) if column_of[at] in tells]
