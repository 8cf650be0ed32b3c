"""Kinds: which texts a field has in some papers, and how often."""

from wordquarry.errors import BadNumber, BadRows, BadWord
from wordquarry.signs import is_integer, is_sign, is_text


def kinds(reader, keys, field):
    """The rows (text, many) of a field in the papers with some keys."""
    reader.check_field(field)
    return rows_of([reader.text_of(number, field) for number in numbers_of(reader, keys)])


def numbers_of(reader, keys):
    return [reader.number_of(key) for key in keys]


def rows_of(texts):
    """The rows of some texts, of which some may be None: greater numbers first."""
    many = {}
    for text in texts:
        if text is not None:
            many[text] = many.get(text, 0) + 1
    return rows_in_order(many)


def rows_in_order(many):
    rows = [(text, many[text]) for text in many]
    return tuple(sorted(rows, key=lambda row: (-row[1], row[0])))


def check_choices(reader, choices, fields):
    for field in sorted(choices):
        reader.check_field(field)
    for field in fields:
        reader.check_field(field)


def meets(reader, number, choices, aside_from):
    """Whether a paper meets some choices, but for those of one field."""
    return all([reader.text_of(number, field) in choices[field] for field in choices
                if field != aside_from])


def meeting(reader, keys, choices):
    """Those of some keys whose papers meet choices, in their order."""
    check_choices(reader, choices, ())
    numbers = numbers_of(reader, keys)
    return [key for key, number in zip(keys, numbers) if meets(reader, number, choices, None)]


def aside(reader, keys, choices, fields):
    """For each field its kinds in the papers that meet the choices of all other fields."""
    check_choices(reader, choices, fields)
    numbers = numbers_of(reader, keys)
    return {field: rows_of([reader.text_of(number, field) for number in numbers
                            if meets(reader, number, choices, field)]) for field in fields}


def branches(rows, sign):
    """The rows (beginning, many) of ways whose steps are parted by a sign, in order."""
    if not is_sign(sign):
        raise BadWord("sign")
    found = {}
    for text, many in rows:
        for at in range(len(text) + 1):
            if at == len(text) or text[at] == sign:
                found[text[:at]] = found.get(text[:at], 0) + many
    return tuple([(beginning, found[beginning]) for beginning in sorted(found)])


class KnownRows:
    """What a part of kinds tells: its rows as a dict, and the last one; bound is None where it
    tells nothing of the texts that it does not have."""

    def __init__(self, rows, is_whole):
        self.many = {text: many for text, many in rows}
        self.is_all = is_whole
        self.last = rows[-1] if len(rows) > 0 else None

    def most_of(self, text):
        """How many papers may have a text there, None for any number; an empty text stands for all
        that may be behind the last one."""
        if text in self.many:
            return self.many[text]
        if self.is_all:
            return 0
        if self.last is None:
            return None
        return self.last[1] if text is None or text > self.last[0] else self.last[1] - 1


def are_first_rows(value):
    """Whether a value is a row of unlike texts with numbers in the order of kinds."""
    if not isinstance(value, (list, tuple)):
        return False
    told = []
    for row in value:
        if not isinstance(row, (list, tuple)) or len(row) != 2:
            return False
        text, many = row
        if not is_text(text) or not is_integer(many) or many < 1:
            return False
        told.append((-many, text))
    if told != sorted(told):
        return False
    return len(set([text for _, text in told])) == len(told)


def sure_first(parts, k):
    """The texts that are surely among the first k, and those that may turn out to be."""
    known = []
    for index in range(len(parts)):
        told = parts[index]
        if not isinstance(told, (list, tuple)) or len(told) != 2 or not are_first_rows(told[0]):
            raise BadRows(index)
        known.append(KnownRows(list(told[0]), bool(told[1])))
    if not is_integer(k) or k < 1:
        raise BadNumber("k", k)
    texts = sorted({text for part in known for text in part.many})
    least = {text: sum([part.many.get(text, 0) for part in known]) for text in texts}
    most = {text: sum_or_none([part.most_of(text) for part in known]) for text in texts}
    # a text that no part tells may be behind all last ones, and there are as many as one likes
    other = sum_or_none([part.most_of(None) for part in known])
    sure = [text for text in texts
            if is_below(other, least[text]) and ahead_of(text, most, least[text]) < k]
    opened = [text for text in texts
              if text not in sure and ahead_of(text, least, most[text]) < k]
    return tuple(sure), tuple(opened)


def sum_or_none(numbers):
    """The sum of some numbers, None if one of them is None: any number."""
    return None if None in numbers else sum(numbers)


def is_below(number, bound):
    """Whether a number, None being any number, is surely below a bound, None being above all."""
    return bound is None or number is not None and number < bound


def ahead_of(text, many, bound):
    """How many other texts have at least so many."""
    return len([one for one in many if one != text and not is_below(many[one], bound)])
