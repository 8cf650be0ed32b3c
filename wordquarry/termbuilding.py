"""The states of maps of words: made of pairs, and read back out of bytes.

A state is a tuple (output of its end or None, arcs), arcs a tuple of tuples (sign, output, number
of the state to which it leads); the first state of a map is the last one."""

from wordquarry.bytesrows import RowReader, Writer
from wordquarry.errors import BadBytes, BadOutput, NotAscending
from wordquarry.signs import SIGNS, WORD_LENGTH, is_integer, is_word

FIRST_SIGN = 2


def check_pairs(pairs):
    """The errors of a list of pairs that is to be a map."""
    if not isinstance(pairs, (list, tuple)):
        raise NotAscending(0)
    last = ""
    for at in range(len(pairs)):
        pair = pairs[at]
        if not isinstance(pair, (list, tuple)) or len(pair) != 2:
            raise NotAscending(at)
        if not is_word(pair[0]) or pair[0] <= last:
            raise NotAscending(at)
        if not is_integer(pair[1]) or pair[1] < 0:
            raise BadOutput(at)
        last = pair[0]


def states_of_pairs(pairs):
    """The states of the least machine of some pairs, and its first output."""
    numbers = {}
    nodes = [(None, [])]
    last = ""
    for word, output in pairs:
        same = 0
        while same < len(last) and last[same] == word[same]:
            same += 1
        close_nodes(nodes, last, same, numbers)
        for _ in range(same, len(word) - 1):
            nodes.append((None, []))
        nodes.append((output, []))
        last = word
    close_nodes(nodes, last, 0, numbers)
    first, _ = closed_node(nodes[0], numbers)
    return list(numbers), first


def close_nodes(nodes, word, many, numbers):
    """Closes the nodes along a word behind its first so many signs; the others stay open."""
    while len(nodes) > many + 1:
        least, number = closed_node(nodes.pop(), numbers)
        nodes[-1][1].append((word[len(nodes) - 1], least, number))


def closed_node(node, numbers):
    """The least sum of a node, and the number of the state with its rest; a new one is the next."""
    end, arcs = node
    sums = [arc[1] for arc in arcs]
    if end is not None:
        sums.append(end)
    least = min(sums, default=0)
    rest = tuple([(sign, output - least, number) for sign, output, number in arcs])
    state = (None if end is None else end - least, rest)
    if state not in numbers:
        numbers[state] = len(numbers)
    return least, numbers[state]


def told_states(states, first):
    """The bytes that tell states and the first output."""
    writer = Writer()
    writer.whole(len(states))
    for end, arcs in states:
        writer.whole(len(arcs) * 2 + (0 if end is None else 1))
        if end is not None:
            writer.whole(end)
        for sign, output, number in arcs:
            writer.whole(SIGNS.index(sign))
            writer.whole(output)
            writer.whole(number)
    writer.whole(first)
    return writer.all_bytes()


def read_states(row):
    """The states that a row of bytes tells, and the first output."""
    reader = RowReader(row)
    many = reader.whole()
    if many == 0:
        raise BadBytes(0)
    numbers = {}
    lengths = []
    while len(numbers) < many:
        begin = reader.at
        state = read_state(reader, len(numbers))
        lengths.append(max([lengths[number] + 1 for _, _, number in state[1]], default=0))
        if lengths[-1] > WORD_LENGTH or state in numbers:
            raise BadBytes(begin)
        is_last = len(numbers) == many - 1
        if is_last and state[0] is not None or not has_least_sum(state, many):
            raise BadBytes(begin)
        numbers[state] = len(numbers)
    begin = reader.at
    first = reader.whole()
    if many == 1 and first > 0:
        raise BadBytes(begin)
    if not reader.is_done:
        raise BadBytes(reader.at)
    states = list(numbers)
    if left_order(states) != list(range(many)):
        raise BadBytes(0)
    return states, first


def read_state(reader, own):
    """One state, the number of which is told."""
    head = reader.whole()
    end = reader.whole() if head & 1 == 1 else None
    arcs = []
    last = FIRST_SIGN - 1
    while len(arcs) < head >> 1:
        begin = reader.at
        place = reader.whole()
        if not last < place < len(SIGNS):
            raise BadBytes(begin)
        last = place
        output = reader.whole()
        begin = reader.at
        number = reader.whole()
        if number >= own:
            raise BadBytes(begin)
        arcs.append((SIGNS[place], output, number))
    return end, tuple(arcs)


def has_least_sum(state, many):
    """Whether the least sum to an end is 0; or there is no end and no other state."""
    sums = [arc[1] for arc in state[1]]
    if state[0] is not None:
        sums.append(state[0])
    return min(sums) == 0 if len(sums) > 0 else many == 1


def left_order(states):
    """The numbers of the states in the order in which a walk from the first one leaves them."""
    order = []
    met = {len(states) - 1: True}
    walk = [(len(states) - 1, 0)]
    while len(walk) > 0:
        state, at = walk.pop()
        arcs = states[state][1]
        if at == len(arcs):
            order.append(state)
        else:
            walk.append((state, at + 1))
            target = arcs[at][2]
            if target not in met:
                met[target] = True
                walk.append((target, 0))
    return order
