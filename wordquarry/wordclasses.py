"""Classes of words: which words some words and patterns tell apart."""

from wordquarry.errors import TooMany
from wordquarry.machines import Machine
from wordquarry.patterns import plain_machine
from wordquarry.signs import WORD_LENGTH, row_signs

MOST_CLASSES = 200


def any_word():
    """The Machine that accepts just all words."""
    signs = row_signs()
    lost = WORD_LENGTH + 1
    rows = [[min(length + 1, lost)] * len(signs) + [lost] for length in range(lost)]
    return Machine(signs, rows + [[lost] * (len(signs) + 1)], list(range(1, WORD_LENGTH + 1)))


class WordWalk:
    """Goes through the words, shorter ones first, as far as the words and the patterns tell them
    apart. A place is a tuple: how much of the words ahead of which it stands was read, None if it
    is none of their beginnings, and the states of the machines of the patterns."""

    def __init__(self, words, patterns):
        self._machines = [plain_machine(pattern) for pattern in patterns]
        self._words = {word: True for word in words}
        self._beginnings = {word[:at]: True for word in words for at in range(len(word) + 1)}
        self._signs = telling_signs(words, self._machines)

    def first_place(self):
        return ("",) + tuple([0 for _ in self._machines])

    def further(self, place):
        """The pairs (sign, place) behind a place."""
        return [(sign, (self._read(place[0], sign),)
                 + tuple([machine.after(state, sign)
                          for machine, state in zip(self._machines, place[1:])]))
                for sign in self._signs]

    def _read(self, text, sign):
        if text is None or text + sign not in self._beginnings:
            return None
        return text + sign

    def fitting(self, place):
        """Which of the patterns fit a word that leads to a place."""
        return tuple([machine.is_good(state) for machine, state in zip(self._machines, place[1:])])

    def is_told(self, place):
        """Whether a place is that of one of the words."""
        return place[0] in self._words


def telling_signs(words, machines):
    """The signs that words or machines name, and the first one of all others."""
    named = {sign: True for word in words for sign in word}
    for machine in machines:
        named.update({sign: True for sign in machine.named})
    others = [sign for sign in row_signs() if sign not in named]
    return [sign for sign in row_signs() if sign in named or sign in others[:1]]


def word_classes(words, patterns):
    """A word of each class that some words and patterns tell apart: the words, then of each further
    class its first shortest word."""
    walk = WordWalk(words, patterns)
    met = {walk.first_place(): True}
    layer = [("", walk.first_place())]
    classes = {}
    found = {}
    for _ in range(WORD_LENGTH):
        further = []
        for word, place in layer:
            for sign, after in walk.further(place):
                if after not in met:
                    met[after] = True
                    further.append((word + sign, after))
                    fitting = walk.fitting(after)
                    classes[fitting] = True
                    if not walk.is_told(after) and fitting not in found:
                        found[fitting] = word + sign
                    if len(classes) > MOST_CLASSES:
                        raise TooMany("classes", MOST_CLASSES + 1, MOST_CLASSES)
        layer = further
    return list(words) + [found[fitting] for fitting in found]
