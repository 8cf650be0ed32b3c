"""Readers: what a store has at one moment."""

from wordquarry.errors import BadNumber, NoField, NoPaper
from wordquarry.signs import is_integer


class Reader:
    """The papers that live in some segments; it never changes. A paper's number is its number in
    its segment and how many papers all segments ahead have."""

    def __init__(self, rows, fields):
        self.fields = tuple(fields)
        told = []
        ahead = 0
        for segment, living in rows:
            told.append((segment, tuple(living), ahead))
            ahead += segment.many
        self.segments = tuple(told)
        self.papers = tuple([segment.papers[number] for segment, living, _ in told
                             for number in living])
        self.places = tuple([before + number for _, living, before in told for number in living])
        self.many = len(self.papers)
        self._homes = {before + number: (segment, number) for segment, living, before in told
                       for number in living}
        self._by_key = {key: number for key, number in zip(self.papers, self.places)}

    def _home(self, number):
        """The segment of a paper, and its number there."""
        if not is_integer(number) or number not in self._homes:
            raise BadNumber("number", number)
        return self._homes[number]

    def check_field(self, field):
        if field not in self.fields:
            raise NoField(field)

    def paper(self, number):
        """The key and the fields of a paper."""
        segment, place = self._home(number)
        return segment.paper(place)

    def number_of(self, key):
        """The number of the paper with a key."""
        if key not in self._by_key:
            raise NoPaper(key)
        return self._by_key[key]

    def text_of(self, number, field):
        """The text of a field of a paper, or None."""
        self.check_field(field)
        return self.paper(number)[1].get(field)

    def length(self, field, number):
        """How many tokens a field of a paper has."""
        self.check_field(field)
        segment, place = self._home(number)
        return segment.book_of(field).lengths.get(place, 0)

    def stats(self, field, word):
        """How many papers there are, how many have a word in a field, and how many tokens the
        field has in all of them."""
        self.check_field(field)
        having = 0
        for segment, living, _ in self.segments:
            book = segment.postings_of(field, word)
            if book is not None:
                having += len([number for number in living if number in book])
        return (self.many, having, self.total(field))

    def total(self, field):
        """How many tokens a field has in all papers."""
        self.check_field(field)
        many = 0
        for segment, living, _ in self.segments:
            lengths = segment.book_of(field).lengths
            many += sum([lengths.get(number, 0) for number in living])
        return many
