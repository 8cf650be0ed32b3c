"""Rules that tell when papers may be passed over, and posting lists with their scores."""

from wordquarry.errors import BadNumber, NoPlace
from wordquarry.passingtexts import RuleReader
from wordquarry.shares import Share


class Part:
    """A posting list with its scores: a function of count and length, or a share for each row."""

    def __init__(self, source, scores):
        self.source = source
        self._function = None
        self._scores = None
        if isinstance(scores, (list, tuple)):
            check_scores(scores, len(source))
            self._scores = tuple(scores)
        else:
            self._function = scores
        self.bounds = tuple([self._bound_of(block) for block in source.blocks])
        self.top = greatest_share(self.bounds)
        self._indices = {source.numbers[at]: at for at in range(len(source.numbers))}

    def _bound_of(self, block):
        """The greatest score in a block: the best pairs tell it without the rows."""
        if self._scores is not None:
            return greatest_share(self._scores[block.start:block.start + block.many])
        function = self._function
        return greatest_share([function(count, length) for count, length in block.pairs])

    def score(self, number):
        """The score of a number of the list."""
        if number not in self.source:
            raise NoPlace(number)
        if self._scores is not None:
            return self._scores[self._indices[number]]
        function = self._function
        return function(len(self.source.places_of(number)), self.source.length_of(number))

    def bound(self, number):
        """The bound of the block that has a number of the list."""
        if number not in self.source:
            raise NoPlace(number)
        return self.bounds[self.source.block_of(number)]


def check_scores(scores, many):
    """The errors of a row of scores for so many rows."""
    if len(scores) != many:
        raise BadNumber("scores", len(scores))
    for score in scores:
        if not isinstance(score, Share) or score.under(0):
            raise BadNumber("score", score)


def greatest_share(shares):
    """The greatest of some shares that are not below 0; 0 of none."""
    greatest = Share(0)
    for share in shares:
        if greatest.under(share):
            greatest = share
    return greatest


class Rule:
    """In which order papers are looked at, and when one is passed; it never changes."""

    def __init__(self, text):
        reader = RuleReader(text)
        self.order = reader.read_order()
        self.rounding = reader.read_rounding()
        self.ahead = reader.read_condition("ahead: ", ("blocks", "lists", "parts"))
        self.between = reader.read_condition("between: ", ("seen", "blocks", "lists", "parts"))
        reader.check_end()
        self.text = text

    def __eq__(self, other):
        if not isinstance(other, Rule) or self.order != other.order:
            return False
        if self.rounding != other.rounding:
            return False
        return self.ahead == other.ahead and self.between == other.between
