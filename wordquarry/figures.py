"""Numbers as rows of figures, however many these are."""

# Python itself refuses to write or read much longer numbers in one go.
SHORT_BITS = 10000
SHORT_FIGURES = 3000
GROUP = 64


def told_number(number):
    """The figures of a number, with - ahead of one below 0."""
    if number < 0:
        return "-" + told_number(-number)
    if number.bit_length() <= SHORT_BITS:
        return str(number)
    groups = []
    while number > 0:
        number, last = divmod(number, 10 ** 64)
        groups.append(str(last).zfill(GROUP))
    return "".join(groups[::-1]).lstrip("0")


def number_of(figures):
    """The number that a row of figures tells."""
    if len(figures) <= SHORT_FIGURES:
        return int(figures)
    many = 0
    rest = len(figures) % GROUP
    if rest > 0:
        many = int(figures[:rest])
    for at in range(rest, len(figures), GROUP):
        many = many * 10 ** 64 + int(figures[at:at + GROUP])
    return many
