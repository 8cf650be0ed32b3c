"""Queries gone through a segment."""

from wordquarry.cursors import Cursor, check_target
from wordquarry.joins import all_of, any_of, at_least, barred
from wordquarry.phrases import near_rows
from wordquarry.queries import (Best, Both, Every, Exact, Flat, Matching, Phrase, Some, Weighed,
                                Without)
from wordquarry.rowsets import spots_of


class Listed:
    """A cursor over ascending numbers; changes with its deeds."""

    def __init__(self, numbers):
        self._numbers_told = tuple(numbers)
        self._at = 0
        self.number = None
        self._stand()

    def _stand(self):
        self.number = None
        if self._at < len(self._numbers_told):
            self.number = self._numbers_told[self._at]

    def go_on(self):
        """To the next number."""
        if self.number is not None:
            self._at += 1
            self._stand()

    def advance(self, to):
        """To the first number from here on that is not below a number."""
        check_target(to)
        low = self._at
        high = len(self._numbers_told)
        while low < high:
            middle = (low + high) // 2
            if self._numbers_told[middle] < to:
                low = middle + 1
            else:
                high = middle
        self._at = low
        self._stand()


def leaf_counts(leaf, segment, plan):
    """For each paper of a segment in which a leaf stands how often it does."""
    if isinstance(leaf, Phrase):
        return phrase_counts(leaf, segment, plan)
    if isinstance(leaf, Exact):
        words = [leaf.word]
    else:
        terms = segment.terms_of(leaf.field)
        words = [word for word, _ in terms.pairs_from("") if leaf.pattern.fits(word)]
    counts = {}
    for word in words:
        book = segment.postings_of(leaf.field, word)
        if book is not None:
            for number, places in book.rows:
                counts[number] = counts.get(number, 0) + len(places)
    return {number: counts[number] for number in sorted(counts)}


def phrase_counts(leaf, segment, plan):
    """For each paper in which a Phrase stands the number of its anchors."""
    spots = spots_of(leaf, plan)
    lists = []
    indices = {}
    for _, lot in spots:
        for one in lot:
            book = segment.postings_of(leaf.field, one)
            if book is not None and one not in indices:
                indices[one] = len(lists)
                lists.append(book)
    groups = [tuple([indices[word] for word in words if word in indices]) for _, words in spots]
    rows = near_rows(lists, groups, [offset for offset, _ in spots], leaf.slop)
    return {number: anchors for number, anchors in rows}


def walked(query, segment, plan):
    """A cursor or a join over the numbers of the papers that a query finds."""
    if isinstance(query, (Weighed, Flat)):
        return walked(query.query, segment, plan)
    if isinstance(query, Without):
        return barred(Listed(list(range(segment.many))), walked(query.query, segment, plan))
    if isinstance(query, (Both, Some, Best)):
        cursors = [walked(one, segment, plan) for one in query.queries]
        if isinstance(query, Both):
            return all_of(cursors)
        return at_least(query.least, cursors) if isinstance(query, Some) else any_of(cursors)
    if isinstance(query, Exact):
        book = segment.postings_of(query.field, query.word)
        return Listed(()) if book is None else Cursor(book)
    if isinstance(query, (Phrase, Matching)):
        return Listed(list(leaf_counts(query, segment, plan)))
    return Listed(list(range(segment.many)) if isinstance(query, Every) else [])
