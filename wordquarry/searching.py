"""Searching: queries answered from the papers of a reader."""

from wordquarry.best import best, check_many, in_order
from wordquarry.errors import NoField
from wordquarry.joins import numbers_left
from wordquarry.passing import Part
from wordquarry.plainlook import check_spots, scored
from wordquarry.postings import PostingList
from wordquarry.queries import (Exact, Matching, Phrase, Some, Weighed, holds_by, leaves_of,
                                queries_in)
from wordquarry.rankings import falls_by_count, grows_by_length
from wordquarry.shares import Share
from wordquarry.walks import leaf_counts, walked


class Searcher:
    """Answers queries from the papers of a reader; it never changes."""

    def __init__(self, reader, plan, scoring):
        self._reader = reader
        self._plan = plan
        self._scoring = scoring

    def _check_fields(self, query):
        for field in query.fields:
            if field not in self._plan.fields:
                raise NoField(field)

    def _found_places(self, query):
        """The numbers of the papers in which a query holds."""
        places = []
        for segment, living, ahead in self._reader.segments:
            lives = {number: True for number in living}
            cursor = walked(query, segment, self._plan)
            places.extend([ahead + number for number in numbers_left(cursor) if number in lives])
        return places

    def _key(self, place):
        return self._reader.paper(place)[0]

    def found(self, query):
        """The keys of the papers in which a query holds."""
        self._check_fields(query)
        check_spots(query, self._plan)
        return [self._key(place) for place in self._found_places(query)]

    def best(self, query, k):
        """The best k pairs (key, score) of these papers."""
        self._check_fields(query)
        check_many(k)
        check_spots(query, self._plan)
        look = ReaderLook(self._reader, self._plan, self._scoring, query)
        if self._is_passable(query):
            rows = []
            for found in self._best_of_segments(query, k, look):
                rows.extend(found[0])
        else:
            rows = [(place, look.score(query, place)) for place in self._found_places(query)]
        return [(self._key(place), score) for place, score in in_order(rows)[:k]]

    def score(self, query, key):
        """The score of a query in a paper."""
        self._check_fields(query)
        place = self._reader.number_of(key)
        check_spots(query, self._plan)
        score = ReaderLook(self._reader, self._plan, self._scoring, query).score(query, place)
        return Share(0) if score is None else score

    def why(self, query, key):
        """The told text of a query, whether it holds in a paper, its score, and the same for the
        queries of which it is made."""
        self._check_fields(query)
        place = self._reader.number_of(key)
        check_spots(query, self._plan)
        return ReaderLook(self._reader, self._plan, self._scoring, query).reasons(query, place)

    def worked_out(self, query, k):
        """In how many pairs of a leaf and a paper the score is worked out to tell the best k, and
        how many there are; None if the query does not ask for single words alone."""
        self._check_fields(query)
        check_many(k)
        if not self._is_passable(query):
            return None
        look = ReaderLook(self._reader, self._plan, self._scoring, query)
        found = self._best_of_segments(query, k, look)
        return (sum([looked for _, looked, _ in found]), sum([pairs for _, _, pairs in found]))

    def _is_passable(self, query):
        """Whether papers may be passed over: single words are asked for, and more of a word never
        makes less of the score, nor a longer text more."""
        if not asks_single_words(query) or falls_by_count(self._scoring) is not None:
            return False
        return grows_by_length(self._scoring) is None

    def _best_of_segments(self, query, k, look):
        """For each segment the best k rows (number, score), in how many pairs of a leaf and a paper
        the score was worked out, and how many there are."""
        told = []
        for segment, living, ahead in self._reader.segments:
            parts = []
            for one in query.queries if isinstance(query, Some) else [query]:
                leaf = one.query if isinstance(one, Weighed) else one
                book = living_list(segment, living, leaf)
                if book is not None:
                    weight = one.weight if isinstance(one, Weighed) else Share(1)
                    parts.append(Part(book, look.score_function(leaf, weight)))
            found = best(parts, k)
            rows = [(ahead + number, score) for number, score in found.rows]
            told.append((rows, len(found.looked), sum([len(part.source) for part in parts])))
        return told


def is_single_word(query):
    if isinstance(query, Weighed):
        return isinstance(query.query, Exact)
    return isinstance(query, Exact)


def asks_single_words(query):
    """Whether a query asks for single words."""
    if isinstance(query, Some):
        return query.least == 1 and all([is_single_word(one) for one in query.queries])
    return is_single_word(query)


def living_list(segment, living, leaf):
    """The list of a word over the papers that live, None if there is none."""
    book = segment.postings_of(leaf.field, leaf.word)
    if book is None or len(living) == segment.many:
        return book
    lives = {number: True for number in living}
    rows = [(number, places) for number, places in book.rows if number in lives]
    return PostingList(rows, segment.book_of(leaf.field).lengths)


class ReaderLook:
    """What the leaves of a query count in the papers of a reader."""

    def __init__(self, reader, plan, scoring, query):
        self._reader = reader
        self._scoring = scoring
        self._counts = {}
        self._totals = {}
        for leaf in leaves_of(query):
            if isinstance(leaf, (Phrase, Exact, Matching)) and leaf.told not in self._counts:
                self._counts[leaf.told] = living_counts(reader, plan, leaf)
                self._totals[leaf.field] = reader.total(leaf.field)

    def score(self, query, place):
        """The score of a query in a paper, None if it does not hold."""
        return scored(query, lambda one: self._holds(one, place),
                      lambda leaf: self._score_there(leaf, place))

    def _holds(self, query, place):
        return holds_by(query, lambda leaf: place in self._counts[leaf.told])

    def _score_there(self, leaf, place):
        count = self._counts[leaf.told][place]
        return self._leaf_score(leaf, count, self._reader.length(leaf.field, place))

    def _leaf_score(self, leaf, count, length):
        having = len(self._counts[leaf.told])
        return self._scoring.score(self._reader.many, having, self._totals[leaf.field], length, count)

    def score_function(self, leaf, weight):
        """How the score of a leaf follows from its count and the length of the field."""
        return lambda count, length: self._leaf_score(leaf, count, length) * weight

    def reasons(self, query, place):
        """The told text of a query, whether it holds, its score, and the same for its queries."""
        score = self.score(query, place)
        rows = tuple([self.reasons(one, place) for one in queries_in(query)])
        return (query.told, score is not None, Share(0) if score is None else score, rows)


def living_counts(reader, plan, leaf):
    """How often a leaf stands in each paper of a reader in which it does, by their numbers."""
    found = {}
    for segment, living, ahead in reader.segments:
        counts = leaf_counts(leaf, segment, plan)
        for number in living:
            if number in counts:
                found[ahead + number] = counts[number]
    return found
