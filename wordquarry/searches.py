"""The first one of the shortest texts that lead to a state that is looked for."""


def first_text(first, step, is_found, signs, longest=None):
    """Goes from one state on, step(state, sign) telling the next one, or None where none is let;
    None if no text of at most so many signs leads to a state for which is_found holds."""
    if is_found(first):
        return ""
    ways = {first: ()}
    states = [first]
    length = 0
    while len(states) > 0 and length != longest:
        length += 1
        further = []
        for state in states:
            for sign in signs:
                target = step(state, sign)
                if target is not None and target not in ways:
                    ways[target] = (state, sign)
                    further.append(target)
                    if is_found(target):
                        return text_of_way(ways, target)
        states = further
    return None


def text_of_way(ways, state):
    """The text along the way to a state; ways leads to the state ahead and the sign."""
    signs = []
    while len(ways[state]) > 0:
        state, sign = ways[state]
        signs.append(sign)
    return "".join(signs[::-1])
