"""The steps that make words of the changed word of a run."""


def words_after(steps, word):
    """The words that the steps make of one word, and whether their run takes a place."""
    if word == "":
        return (), True
    words = [(word, True)]
    takes = True
    for step in steps:
        done = done_on_all(step, words)
        if len(done) < len(words):
            takes = not step[1]
        # of words that go on and are equal the first one makes all that the others make
        words = list({pair: True for pair in done})
    found = tuple(list({pair[0]: True for pair in words}))
    return found, takes or len(found) > 0


def done_on_all(step, words):
    """One step, done on pairs (word, whether it goes on)."""
    done = []
    for word, goes_on in words:
        if goes_on:
            done.extend(done_on_one(step, word))
        else:
            done.append((word, False))
    return done


def done_on_one(step, word):
    """What one step makes of a word that goes on: a list of pairs."""
    kind = step[0]
    if kind == "both":
        return [(word, False), (word, True)]
    if kind == "also":
        further = step[1][1:] if word == step[1][0] else ()
        return [(word, True)] + [(one, True) for one in further]
    if kind == "ends":
        return [(ended(step[1], word), True)]
    return [] if is_dropped(step, word) else [(word, True)]


def is_dropped(step, word):
    if step[0] == "told":
        return word in step[2]
    return len(word) < step[2] if step[0] == "under" else len(word) > step[2]


def ended(group, word):
    """The word behind the first line of a group that can be done, or the word itself."""
    for end, put, ahead in group:
        if word.endswith(end) and len(word) - len(end) >= ahead:
            return word[:len(word) - len(end)] + put
    return word
