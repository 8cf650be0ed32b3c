"""Maps of words: each word with an output, kept as the least machine."""

from math import gcd

from wordquarry.errors import NoPlace
from wordquarry.signs import is_integer
from wordquarry.termbuilding import check_pairs, read_states, states_of_pairs, told_states


class TermMap:
    """Words in order, each with an output; it never changes."""

    def __init__(self, pairs):
        check_pairs(pairs)
        table, first = states_of_pairs(pairs)
        self.take(table, first)

    def take(self, table, first):
        """Makes this the map of some states; only for a map that nobody has yet."""
        self.table = tuple(table)
        self.first = first
        self.root = len(self.table) - 1
        self.states = len(self.table)
        self.arcs = sum([len(state[1]) for state in self.table])
        self.told = told_states(self.table, first)
        self._arcs = [{arc[0]: arc for arc in state[1]} for state in self.table]
        self._many = []
        for end, arcs in self.table:
            many = sum([self._many[target] for _, _, target in arcs])
            self._many.append(many if end is None else many + 1)
        self.size = self._many[-1]
        self._sums = sums_of_states(self.table)

    def __eq__(self, other):
        return isinstance(other, TermMap) and self.told == other.told

    def __contains__(self, word):
        return self.output_of(word) is not None

    def output_of(self, word):
        """The output of a word, None for any value that is not in the map."""
        if not isinstance(word, str):
            return None
        state = self.root
        output = self.first
        for sign in word:
            if sign not in self._arcs[state]:
                return None
            _, more, state = self._arcs[state][sign]
            output = output + more
        end = self.table[state][0]
        return None if end is None else output + end

    def place_of(self, text):
        """How many words are ahead of a beginning."""
        place = 0
        state = self.root
        for sign in text:
            end, arcs = self.table[state]
            place += sum([self._many[target] for one, _, target in arcs if one < sign])
            if end is not None:
                place += 1
            if sign not in self._arcs[state]:
                return place
            state = self._arcs[state][sign][2]
        return place

    def word_at(self, place):
        """The word with so many words ahead of it."""
        if not is_integer(place) or not 0 <= place < self.size:
            raise NoPlace(place)
        word = ""
        state = self.root
        while place > 0 or self.table[state][0] is None:
            if self.table[state][0] is not None:
                place -= 1
            for sign, _, target in self.table[state][1]:
                if place < self._many[target]:
                    break
                place -= self._many[target]
            word += sign
            state = target
        return word

    def ways_from(self, text):
        """Where a walk through the words that are not ahead of a beginning still has to go: tuples
        (state, word, output, index of the next arc or -1 ahead of the end), the next one last."""
        ways = []
        state = self.root
        output = self.first
        for at in range(len(text)):
            arcs = self.table[state][1]
            behind = len([arc for arc in arcs if arc[0] <= text[at]])
            ways.append((state, text[:at], output, behind))
            if text[at] not in self._arcs[state]:
                return ways
            _, more, state = self._arcs[state][text[at]]
            output += more
        ways.append((state, text, output, -1))
        return ways

    def pairs_from(self, text):
        """Iterates over the pairs whose words are not ahead of a beginning, in order."""
        ways = self.ways_from(text)
        while len(ways) > 0:
            state, word, output, at = ways.pop()
            end, arcs = self.table[state]
            if at < 0 and end is not None:
                yield (word, output + end)
            at = max(at, 0)
            if at < len(arcs):
                ways.append((state, word, output, at + 1))
                sign, more, target = arcs[at]
                ways.append((target, word + sign, output + more, -1))

    def word_of(self, output):
        """The first word with an output, None if no word has it."""
        if not is_integer(output) or output < self.first:
            return None
        failed = {}
        ways = [(self.root, "", output - self.first, -1)]
        while len(ways) > 0:
            state, word, rest, at = ways.pop()
            end, arcs = self.table[state]
            if at < 0 and end == rest:
                return word
            at = max(at, 0)
            if at == len(arcs):
                failed[state, rest] = True
                continue
            ways.append((state, word, rest, at + 1))
            sign, more, target = arcs[at]
            if may_have(self._sums[target], rest - more) and (target, rest - more) not in failed:
                ways.append((target, word + sign, rest - more, -1))
        return None


def sums_of_states(table):
    """For each state the greatest sum from there to an end, and a number that divides all sums:
    there is one, as the least sum is 0."""
    sums = []
    for end, arcs in table:
        greatest = 0 if end is None else end
        divisor = greatest
        for _, more, target in arcs:
            greatest = max(greatest, more + sums[target][0])
            divisor = gcd(divisor, gcd(more, sums[target][1]))
        sums.append((greatest, divisor))
    return sums


def may_have(sums, rest):
    """Whether a sum may be had, as far as the greatest one and the divisor tell."""
    greatest, divisor = sums
    if rest <= 0 or rest > greatest:
        return rest == 0
    return rest - rest // divisor * divisor == 0


def termmap_of(row):
    """The map that a row of bytes tells."""
    book = TermMap([])
    table, first = read_states(row)
    book.take(table, first)
    return book


def joined(maps):
    """Iterates over the words of several maps, in order, each with a tuple of its outputs."""
    books = list(maps)
    ways = [("", [(book.root, book.first) for book in books])]
    while len(ways) > 0:
        word, places = ways.pop()
        outputs = outputs_at(books, places)
        if any([output is not None for output in outputs]):
            yield (word, outputs)
        ways.extend(further_places(books, word, places))


def outputs_at(books, places):
    """The outputs of the maps where a walk through all of them stands."""
    outputs = []
    for book, place in zip(books, places):
        end = None if place is None else book.table[place[0]][0]
        outputs.append(None if end is None else place[1] + end)
    return tuple(outputs)


def further_places(books, word, places):
    """Where the walk goes from there, the first one last."""
    further = {}
    for at in range(len(books)):
        if places[at] is not None:
            state, output = places[at]
            for sign, more, target in books[at].table[state][1]:
                rows = further.setdefault(sign, [None] * len(books))
                rows[at] = (target, output + more)
    return [(word + sign, further[sign]) for sign in sorted(further, reverse=True)]
