"""What a query means: looked up plainly in the texts of papers."""

from wordquarry.errors import BadNumber, NoField, TooMany
from wordquarry.placings import least_cost, tokens_of_placings
from wordquarry.queries import (Best, Both, Every, Exact, Flat, Matching, Phrase, Some, Weighed,
                                Without, holds_by, leaves_of)
from wordquarry.rowsets import MOST_SPOTS, spots_of
from wordquarry.shares import Share
from wordquarry.signs import is_integer


def check_asked(query, plan, papers):
    """The errors of a query that is asked about papers by a plan."""
    for field in query.fields:
        if field not in plan.fields:
            raise NoField(field)
    for paper in papers:
        for field in sorted(paper):
            if field not in plan.fields:
                raise NoField(field)
    check_spots(query, plan)


def check_spots(query, plan):
    """The error of the first Phrase of a query that has too many spots."""
    for leaf in leaves_of(query):
        if isinstance(leaf, Phrase):
            many = len(spots_of(leaf, plan))
            if many > MOST_SPOTS:
                raise TooMany("places", many, MOST_SPOTS)


class Look:
    """A paper, looked at by a plan."""

    def __init__(self, plan, paper):
        self._plan = plan
        self._paper = paper
        self._cut = {}
        self._times = {}

    def tokens_of(self, field):
        """The tokens of a field, None if the paper does not have it."""
        if field not in self._paper:
            return None
        if field not in self._cut:
            self._cut[field] = self._plan.tokens(field, self._paper[field])
        return self._cut[field]

    def length(self, field):
        """How many tokens a field has."""
        tokens = self.tokens_of(field)
        return 0 if tokens is None else len(tokens)

    def spots(self, phrase):
        """For each spot of a Phrase the tokens (place, index) that it may have, and the offsets."""
        tokens = self.tokens_of(phrase.field)
        spots = []
        offsets = []
        for offset, words in spots_of(phrase, self._plan):
            spots.append(sorted([(tokens[index][1], index) for index in range(len(tokens))
                                 if tokens[index][0] in words]))
            offsets.append(offset)
        return spots, offsets

    def anchors(self, phrase):
        """The pairs (index, cost) of the anchors at which a Phrase stands."""
        if self.tokens_of(phrase.field) is None:
            return []
        spots, offsets = self.spots(phrase)
        found = []
        if len(spots) > 0:
            for token in spots[0]:
                cost = least_cost(spots, offsets, token, phrase.slop)
                if cost is not None:
                    found.append((token[1], cost))
        return sorted(found)

    def standing(self, leaf):
        """The indexes of the tokens that an Exact or a Matching counts."""
        tokens = self.tokens_of(leaf.field)
        if tokens is None:
            return []
        if isinstance(leaf, Exact):
            return [index for index in range(len(tokens)) if tokens[index][0] == leaf.word]
        return [index for index in range(len(tokens)) if leaf.pattern.fits(tokens[index][0])]

    def times(self, leaf):
        """How often a leaf stands."""
        if leaf.told not in self._times:
            self._times[leaf.told] = self._count(leaf)
        return self._times[leaf.told]

    def _count(self, leaf):
        if isinstance(leaf, Phrase):
            return len(self.anchors(leaf))
        if isinstance(leaf, (Exact, Matching)):
            return len(self.standing(leaf))
        return 1 if isinstance(leaf, Every) else 0

    def finds(self, query):
        """Whether a query holds."""
        return holds_by(query, lambda leaf: self.times(leaf) > 0)

    def found_by(self, leaf):
        """The indexes of the tokens by which a leaf is found."""
        if not isinstance(leaf, Phrase):
            return self.standing(leaf)
        if self.tokens_of(leaf.field) is None:
            return []
        spots, offsets = self.spots(leaf)
        found = []
        for anchor in spots[0] if len(spots) > 0 else []:
            for token in tokens_of_placings(spots, offsets, anchor, leaf.slop):
                found.append(token[1])
        return found


def holds(query, plan, paper):
    """Whether a query holds for a paper."""
    check_asked(query, plan, [paper])
    return Look(plan, paper).finds(query)


def anchors(phrase, plan, paper):
    """The pairs (index, cost) of all anchors at which a Phrase stands, ascending."""
    check_asked(phrase, plan, [paper])
    return Look(plan, paper).anchors(phrase)


def count_of(leaf, plan, paper):
    """How often a leaf stands in a paper."""
    check_asked(leaf, plan, [paper])
    return Look(plan, paper).times(leaf)


def touched(query, plan, paper, field):
    """The indexes of the tokens of a field by which a query is found, ascending."""
    check_asked(query, plan, [paper])
    look = Look(plan, paper)
    if not look.finds(query):
        return ()
    found = []
    for leaf in leaves_that_find(query):
        if leaf.fields == (field,):
            found.extend(look.found_by(leaf))
    return tuple(sorted(set(found)))


def leaves_that_find(query):
    """The leaves that are not within a Without."""
    if isinstance(query, Without):
        return []
    if isinstance(query, (Weighed, Flat)):
        return leaves_that_find(query.query)
    if isinstance(query, (Both, Some, Best)):
        return [leaf for one in query.queries for leaf in leaves_that_find(one)]
    return [query]


class Judge:
    """Papers, of which one gets its score."""

    def __init__(self, plan, papers, index, scoring):
        self._looks = [Look(plan, paper) for paper in papers]
        self._look = self._looks[index]
        self._scoring = scoring

    def score(self, query):
        """The score of a query, None if it does not hold."""
        return scored(query, lambda one: self._look.finds(one), lambda leaf: self._leaf_score(leaf))

    def _leaf_score(self, leaf):
        having = len([look for look in self._looks if look.times(leaf) > 0])
        total = sum([look.length(leaf.field) for look in self._looks])
        return self._scoring.score(len(self._looks), having, total, self._look.length(leaf.field),
                                   self._look.times(leaf))


def scored(query, holds_there, score_leaf):
    """The score of a query in a paper, None if it does not hold; holds_there(query) tells whether
    one holds, score_leaf(leaf) the score of a leaf that asks a field."""
    if not holds_there(query):
        return None
    if isinstance(query, (Every, Without)):
        return Share(0)
    if isinstance(query, Weighed):
        return scored(query.query, holds_there, score_leaf) * query.weight
    if isinstance(query, Flat):
        return query.weight
    if isinstance(query, (Both, Some, Best)):
        scores = [scored(one, holds_there, score_leaf) for one in query.queries]
        return joined_score(query, [score for score in scores if score is not None])
    return score_leaf(query)


def joined_score(query, scores):
    """The score of a Both, a Some or a Best out of those of its queries that hold."""
    total = Share(0)
    greatest = scores[0]
    for score in scores:
        total = total + score
        if greatest.under(score):
            greatest = score
    if isinstance(query, Best):
        return greatest + (total - greatest) * query.rest
    return total


def score_of(query, plan, papers, index, scoring):
    """The score of the paper with an index among some papers."""
    check_asked(query, plan, papers)
    if not is_integer(index) or not 0 <= index < len(papers):
        raise BadNumber("index", index)
    score = Judge(plan, papers, index, scoring).score(query)
    return Share(0) if score is None else score
