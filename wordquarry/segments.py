"""Segments: papers with the lists of their words."""

from wordquarry.bytesrows import RowReader, Writer
from wordquarry.errors import NoField
from wordquarry.postings import PostingList, postinglist_of
from wordquarry.seals import sealed, unsealed
from wordquarry.terms import TermMap, joined, termmap_of

ENDS = ("lengths", "papers", "postings", "words")


class Book:
    """What a segment has of one field: terms, the lists of the words in their order, lengths."""

    def __init__(self, terms, lists, lengths):
        self.terms = terms
        self.lists = tuple(lists)
        self.lengths = lengths


class Segment:
    """Papers with numbers, and a Book for each field; it never changes."""

    def __init__(self, papers, books):
        self._papers = [(key, dict(fields)) for key, fields in papers]
        self._books = {field: books[field] for field in sorted(books)}
        self.many = len(self._papers)
        self.papers = tuple([key for key, _ in self._papers])
        self.fields = tuple(sorted(books))

    def paper(self, number):
        """The key and the fields of a paper."""
        key, fields = self._papers[number]
        return (key, dict(fields))

    def book_of(self, field):
        if field not in self.fields:
            raise NoField(field)
        return self._books[field]

    def terms_of(self, field):
        """The map of the words of a field."""
        return self.book_of(field).terms

    def postings_of(self, field, word):
        """The list of a word in a field, None if no paper has it there."""
        book = self.book_of(field)
        place = book.terms.output_of(word)
        return None if place is None else book.lists[place]

    def lengths_of(self, field):
        """How many tokens each paper has that has the field."""
        return dict(self.book_of(field).lengths)

    def told_files(self):
        """The sealed rows of the segment, by the ends of their names."""
        books = [self._books[field] for field in self.fields]
        return {"lengths": sealed(told_lengths(books)), "papers": sealed(told_papers(self._papers)),
                "postings": sealed(told_postings(books)),
                "words": sealed(told_words(self.fields, books))}


def segment_of(papers, plan):
    """The segment of some papers (key, fields), in their order."""
    rows = {field: {} for field in plan.fields}
    lengths = {field: {} for field in plan.fields}
    for number in range(len(papers)):
        texts = papers[number][1]
        for field in sorted(texts):
            if field not in plan.fields:
                raise NoField(field)
            tokens = plan.tokens(field, texts[field])
            lengths[field][number] = len(tokens)
            for word, places in places_of_words(tokens):
                rows[field].setdefault(word, []).append((number, places))
    return Segment(papers, {field: book_of_rows(rows[field], lengths[field])
                            for field in plan.fields})


def places_of_words(tokens):
    """The pairs of each word and its places, ascending, each once."""
    found = {}
    for token in tokens:
        found.setdefault(token[0], []).append(token[1])
    return [(word, tuple(sorted(set(found[word])))) for word in found]


def book_of_rows(rows, lengths):
    """The Book of some rows for each word."""
    words = sorted(rows)
    lists = [PostingList(rows[word], lengths) for word in words]
    return Book(TermMap([(words[at], at) for at in range(len(words))]), lists, lengths)


def told_papers(papers):
    writer = Writer()
    writer.whole(len(papers))
    for key, fields in papers:
        writer.signs(key)
        writer.whole(len(fields))
        for field in sorted(fields):
            writer.signs(field)
            writer.signs(fields[field])
    return writer.all_bytes()


def told_words(fields, books):
    writer = Writer()
    writer.whole(len(fields))
    for field, book in zip(fields, books):
        writer.signs(field)
        write_row(writer, book.terms.told)
    return writer.all_bytes()


def told_lengths(books):
    writer = Writer()
    for book in books:
        writer.whole(len(book.lengths))
        for number in sorted(book.lengths):
            writer.whole(number)
            writer.whole(book.lengths[number])
    return writer.all_bytes()


def told_postings(books):
    writer = Writer()
    for book in books:
        for one in book.lists:
            write_row(writer, one.told)
    return writer.all_bytes()


def write_row(writer, row):
    """Writes a row of bytes, with its length ahead."""
    writer.whole(len(row))
    writer.raw(row)


def read_row(reader):
    return reader.raw(reader.whole())


def segment_from(name, told):
    """The segment that some sealed rows tell; name begins the names of their files."""
    readers = {end: RowReader(unsealed(name + "." + end, told[end])) for end in ENDS}
    papers = read_papers(readers["papers"])
    books = {}
    for _ in range(readers["words"].whole()):
        field = readers["words"].signs()
        terms = termmap_of(read_row(readers["words"]))
        lists = [postinglist_of(read_row(readers["postings"])) for _ in range(terms.size)]
        books[field] = Book(terms, lists, read_lengths(readers["lengths"]))
    return Segment(papers, books)


def read_papers(reader):
    papers = []
    for _ in range(reader.whole()):
        key = reader.signs()
        fields = {}
        for _ in range(reader.whole()):
            field = reader.signs()
            fields[field] = reader.signs()
        papers.append((key, fields))
    return papers


def read_lengths(reader):
    lengths = {}
    for _ in range(reader.whole()):
        number = reader.whole()
        lengths[number] = reader.whole()
    return lengths


def merged(segments, kept):
    """The segment of the papers that are kept, in the order of the segments and their numbers."""
    papers = []
    places = []
    for segment, numbers in zip(segments, kept):
        places.append({numbers[at]: len(papers) + at for at in range(len(numbers))})
        papers.extend([segment.paper(number) for number in numbers])
    books = {}
    for field in segments[0].fields:
        books[field] = merged_book([one.book_of(field) for one in segments], places)
    return Segment(papers, books)


def merged_book(books, places):
    """The Book of the papers that are kept: places leads, for each Book, from their numbers to the
    new ones."""
    lengths = {}
    for book, numbers in zip(books, places):
        for number in sorted(book.lengths):
            if number in numbers:
                lengths[numbers[number]] = book.lengths[number]
    rows = {}
    maps = [book.terms for book in books]
    for word, outputs in joined(maps):
        for at in range(len(books)):
            if outputs[at] is not None:
                for number, row in books[at].lists[outputs[at]].rows:
                    if number in places[at]:
                        rows.setdefault(word, []).append((places[at][number], row))
    return book_of_rows(rows, lengths)
