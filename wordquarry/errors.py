"""The errors of the package: each keeps the fields from which it is made."""


class SearchError(ValueError):
    """What all errors of the package are."""


class BadText(SearchError):
    """A told text goes wrong at a line and a column."""

    def __init__(self, line, column):
        self.line = line
        self.column = column


class BadWord(SearchError):
    """A value is not of the form that is wanted."""

    def __init__(self, what):
        self.what = what


class BadNumber(SearchError):
    """A number is out of its bounds, or no number."""

    def __init__(self, what, number):
        self.what = what
        self.number = number


class BadBytes(SearchError):
    """A row of bytes goes wrong at a place."""

    def __init__(self, place):
        self.place = place


class TooMany(SearchError):
    """There are more of something than the limit."""

    def __init__(self, what, many, limit):
        self.what = what
        self.many = many
        self.limit = limit


class NoField(SearchError):
    """A field that there is not."""

    def __init__(self, name):
        self.name = name


class NoPaper(SearchError):
    """A key that no paper has."""

    def __init__(self, key):
        self.key = key


class TakenKey(SearchError):
    """A key that a paper has already."""

    def __init__(self, key):
        self.key = key


class Broken(SearchError):
    """Something that can't be used any more."""

    def __init__(self, name):
        self.name = name


class Crashed(SearchError):
    """The power is gone."""


class NotAscending(SearchError):
    """The first thing of a row that is not behind the one ahead of it."""

    def __init__(self, index):
        self.index = index


class BadOutput(SearchError):
    """The first pair whose output is none."""

    def __init__(self, index):
        self.index = index


class NoPlace(SearchError):
    """A place that there is not."""

    def __init__(self, place):
        self.place = place


class BadRows(SearchError):
    """The first row that is wrong."""

    def __init__(self, index):
        self.index = index


class BadLength(SearchError):
    """The first number whose length is lacking or wrong."""

    def __init__(self, number):
        self.number = number


class NoBlock(SearchError):
    """An index that no block has."""

    def __init__(self, index):
        self.index = index


class NoFile(SearchError):
    """A name that no file has."""

    def __init__(self, name):
        self.name = name


class BadCrash(SearchError):
    """A told crash that can't be."""

    def __init__(self, what):
        self.what = what


class TornFile(SearchError):
    """A file whose row is not sealed."""

    def __init__(self, name):
        self.name = name


class Merging(SearchError):
    """A merge is going on."""


class NotMerging(SearchError):
    """No merge is going on."""


class NothingToUndo(SearchError):
    """There is nothing to undo."""


class NothingToRedo(SearchError):
    """There is nothing to do again."""


class BadScoring(SearchError):
    """Numbers at which a scoring goes wrong."""

    def __init__(self, numbers):
        self.numbers = numbers
