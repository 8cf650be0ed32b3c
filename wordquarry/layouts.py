"""Layouts: how rows are cut into blocks, and how steps are packed."""

from wordquarry.errors import BadNumber
from wordquarry.layouttexts import read_layout


class Layout:
    """How a posting list is packed, told by a text; it never changes."""

    def __init__(self, text):
        self.is_free, self.block, self.exceptions, self.wide, self.head = read_layout(text)
        self.text = text

    def __eq__(self, other):
        return isinstance(other, Layout) and told_numbers(self) == told_numbers(other)

    def block_weight(self, steps):
        """(weight, number of exceptions, width) of steps as one block."""
        if not 1 <= len(steps) <= self.block:
            raise BadNumber("steps", len(steps))
        widths = sorted([step.bit_length() for step in steps], reverse=True)
        return weight_of_widths(self, len(widths), widths)

    def cuts(self, steps):
        """The lengths of the blocks into which a row of steps is cut."""
        if self.is_free:
            return free_cuts(self, steps)
        many = len(steps)
        lengths = [self.block] * (many // self.block)
        if many > self.block * len(lengths):
            lengths.append(many - self.block * len(lengths))
        return tuple(lengths)

    def total(self, steps):
        """The sum of the weights of the blocks of a row of steps."""
        weight = 0
        begin = 0
        for length in self.cuts(steps):
            weight += self.block_weight(steps[begin:begin + length])[0]
            begin += length
        return weight


def told_numbers(layout):
    """All that a layout says."""
    return (layout.is_free, layout.block, layout.exceptions, layout.wide, layout.head)


def plain_layout():
    return Layout("blocks of 8")


def weight_of_widths(layout, many, widths):
    """(weight, number of exceptions, width) of a block of so many steps: widths has the greatest
    ones, descending, one more than there may be exceptions, or all."""
    best = ()
    for excepted in range(min(layout.exceptions, many) + 1):
        if excepted == 0 or widths[0] <= layout.wide:
            width = widths[excepted] if excepted < many else 0
            weight = many * width + excepted * layout.wide + layout.head
            if best == () or weight < best[0]:
                best = (weight, excepted, width)
    return best


def free_cuts(layout, steps):
    """The lengths of the blocks with the least weight: the fewest ones, of these the longest first.
    Behind each place the best rest is the same, however the place is come to."""
    best = [(0, 0, 0)]
    for begin in range(len(steps) - 1, -1, -1):
        found = ()
        for length in range(1, min(layout.block, len(steps) - begin) + 1):
            rest = best[len(steps) - begin - length]
            weight = layout.block_weight(steps[begin:begin + length])[0]
            way = (weight + rest[0], 1 + rest[1], -length)
            if found == () or way < found:
                found = way
        best.append(found)
    lengths = []
    left = len(steps)
    while left > 0:
        lengths.append(-best[left][2])
        left += best[left][2]
    return tuple(lengths)
