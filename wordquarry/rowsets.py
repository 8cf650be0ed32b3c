"""The plain rows of words in which a leaf stands, as machines.

A placing of a phrase is told as what it still wants: a row with, for each further place of the plain
row, the lot of words that have to stand there, ANY for any. As it is read, each placing that may
begin with the next word is begun; a state of the machine is the set of what is still wanted."""

from wordquarry.errors import TooMany
from wordquarry.machines import STATES, Machine, all_rows, check_states, no_rows
from wordquarry.queries import Every, Exact, Never, Phrase

MOST_SPOTS = 8
# So many placings may be gone on with, in all states together.
MOST_STEPS = 1000000
ANY = -1
DONE = ((),)


def spots_of(leaf, plan):
    """The spots of a Phrase: pairs (offset, words), ascending."""
    words = {}
    for token in plan.tokens(leaf.field, leaf.words):
        words.setdefault(token[1], []).append(token[0])
    places = sorted(words)
    return [(place - places[0], tuple(words[place])) for place in places]


def leaf_rows(leaf, plan, classes):
    """The Machine of the rows, told by the indices of words, in which a leaf stands."""
    if isinstance(leaf, Every):
        return all_rows()
    if isinstance(leaf, Never):
        return no_rows()
    if isinstance(leaf, Phrase):
        spots = spots_of(leaf, plan)
        if len(spots) > MOST_SPOTS:
            raise TooMany("places", len(spots), MOST_SPOTS)
        return phrase_rows(spots, leaf.slop, list(classes))
    if isinstance(leaf, Exact):
        return rows_with([index for index in range(len(classes)) if classes[index] == leaf.word],
                         len(classes))
    return rows_with([index for index in range(len(classes)) if leaf.pattern.fits(classes[index])],
                     len(classes))


def rows_with(indices, many):
    """The Machine of the rows in which some letter stands."""
    rows = [[1 if index in indices else 0 for index in range(many)] + [0], [1] * (many + 1)]
    return Machine(list(range(many)), rows, [1])


def phrase_rows(spots, slop, classes):
    """The Machine of the rows in which some placing costs at most slop."""
    lots = [tuple([index for index in range(len(classes)) if classes[index] in words])
            for _, words in spots]
    if len(spots) == 0 or () in lots:
        return no_rows()
    named = sorted(set(lots))
    begun = wanted_rows([offset for offset, _ in spots], [named.index(lot) for lot in lots], slop)
    walk = PhraseWalk(begun, named, len(classes))
    return walk.made_machine()


def wanted_rows(offsets, lots, slop):
    """What all placings that cost at most slop want, from their first tokens on."""
    placings = [({0: lots[0]}, 0)]
    for offset, lot in zip(offsets[1:], lots[1:]):
        further = []
        for taken, cost in placings:
            for place in range(offset - slop + cost, offset + slop - cost + 1):
                if place not in taken:
                    more = dict(taken)
                    more[place] = lot
                    further.append((more, cost + abs(place - offset)))
        placings = further
        check_steps(len(placings))
    rows = {}
    for taken, _ in placings:
        rows[tuple([taken.get(place, ANY) for place in range(min(taken), max(taken) + 1)])] = True
    return sorted(rows)


def check_steps(many):
    if many > MOST_STEPS:
        raise TooMany("states", STATES + 1, STATES)


class PhraseWalk:
    """Goes through all states of a phrase. lots are the unlike lots of letters that are wanted."""

    def __init__(self, begun, lots, letters):
        self._letters = letters
        self._lots = [{letter: True for letter in lot} for lot in lots]
        self._within = [[len([letter for letter in one if letter not in two]) == 0
                         for two in self._lots] for one in self._lots]
        self._steps = 0
        self._kinds = {(): []}
        for number in range(letters):
            lots_with = tuple([at for at in range(len(lots)) if number in self._lots[at]])
            self._kinds.setdefault(lots_with, []).append(number)
        self._begun = {kind: self._needed_rows(rests_behind(begun, kind), []) for kind in self._kinds}

    def made_machine(self):
        """The Machine of the rows behind which some placing is whole. Letters that are in the same
        lots do the same, and so do all others."""
        states = [()]
        numbers = {(): 0}
        rows = []
        while len(rows) < len(states):
            row = [0] * (self._letters + 1)
            for kind in self._kinds:
                target = self._behind(states[len(rows)], kind)
                if target not in numbers:
                    numbers[target] = len(states)
                    states.append(target)
                    check_states(len(states))
                for letter in self._kinds[kind] + ([self._letters] if kind == () else []):
                    row[letter] = numbers[target]
            rows.append(row)
        good = [numbers[DONE]] if DONE in numbers else []
        return Machine(list(range(self._letters)), rows, good)

    def _behind(self, state, kind):
        """The state behind one more letter, which is in some lots."""
        if state == DONE:
            return DONE
        begun = self._begun[kind]
        self._steps += len(state) + len(begun)
        check_steps(self._steps)
        further = rests_behind(state, kind)
        if () in further or () in begun:
            return DONE
        return tuple(sorted(self._needed_rows(further, begun)))

    def _needed_rows(self, rows, kept):
        """Those of some wanted rows, and of some that were chosen so, that are not met whenever
        another one is."""
        kept = list(kept)
        for row in sorted({one: True for one in rows}, key=lambda one: len(one)):
            if not any([self._is_less(one, row) for one in kept]):
                kept = [one for one in kept if not self._is_less(row, one)]
                kept.append(row)
        return kept

    def _is_less(self, one, two):
        """Whether the one row is met, and not later, whenever the other one is."""
        if len(one) > len(two):
            return False
        for left, right in zip(one, two):
            if left != right and left != ANY and (right == ANY or not self._within[right][left]):
                return False
        return True


def rests_behind(rows, kind):
    """What some wanted rows still want behind a letter that is in some lots."""
    return [row[1:] for row in rows if row[0] == ANY or row[0] in kind]
