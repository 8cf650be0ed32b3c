"""Texts of near rules, read sign by sign."""

from wordquarry.signs import FIGURES, WORD_LENGTH, row_signs

PRICES = "123456789"
LIMITS = "01234"
# The kinds of lines, in the order in which they come.
KINDS = ("put ", "drop ", "change ", "swap ")
GENERAL_CHANGE = 2
OWN_CHANGE = 4
KEEP = 5
LIMIT = 6
OWN_HEAD = "change "
# Where the two signs and the price of a change with a price of its own stand.
FIRST_SIGN = 7
SECOND_SIGN = 9
OWN_PRICE = 11
LAST_SIGN = "~"
SIGN_AHEAD = "}"


class NearReader:
    """Reads a near rule; what was read is kept as prices."""

    def __init__(self):
        self.line = ""
        self.prices = {}
        self.own_prices = {}
        self.keep = 0
        self.limit = 0
        self._kind = 0
        self._last = ("", "")

    def wants_sign(self):
        """Whether one of the two signs of a change may come next."""
        return self.line == OWN_HEAD or len(self.line) == SECOND_SIGN and self.line.startswith(OWN_HEAD)

    def goes_on(self, sign):
        """Whether a rule may go on with a sign."""
        if sign == "\n":
            return self._kind_of_line() in (0, 1, 2, 3, OWN_CHANGE, KEEP)
        line = self.line + sign
        return self._begins_short(line) or self._begins_own(line)

    def read(self, sign):
        """Reads a sign with which a rule goes on."""
        if sign != "\n":
            self.line += sign
            return
        kind = self._kind_of_line()
        line = self.line
        if kind == OWN_CHANGE:
            self._last = (line[FIRST_SIGN], line[SECOND_SIGN])
            self.own_prices[self._last] = int(line[OWN_PRICE])
        elif kind == KEEP:
            self.keep = int(line[len("keep "):])
        else:
            self.prices[KINDS[kind].strip()] = int(line[-1])
        self._kind = kind if kind == OWN_CHANGE else kind + 1
        self.line = ""

    def is_whole(self):
        """Whether what was read is a rule."""
        return self._kind_of_line() == LIMIT

    def end(self):
        """Reads the end of a rule, which is its limit."""
        self.limit = int(self.line[-1])

    def _kind_of_line(self):
        """The kind of the line that was read, None if it is no whole one."""
        line = self.line
        if line.startswith(OWN_HEAD) and len(line) == OWN_PRICE + 1:
            return OWN_CHANGE
        if line.startswith("limit ") and len(line) == len("limit 0"):
            return LIMIT
        if line.startswith("keep ") and len(line) > len("keep "):
            return KEEP
        for kind in range(len(KINDS)):
            if line.startswith(KINDS[kind]) and len(line) == len(KINDS[kind]) + 1:
                return kind if line[-1] in PRICES and kind >= self._kind else None
        return None

    def _begins_short(self, line):
        """Whether a line that may come begins so, other than one of a change with its own price."""
        heads = [KINDS[kind] for kind in range(self._kind, len(KINDS))]
        if any([begins(line, head, PRICES) for head in heads]) or begins(line, "limit ", LIMITS):
            return True
        if self._kind > KEEP:
            return False
        figures = line[len("keep "):]
        if len(figures) < 2:
            return begins(line, "keep ", PRICES)
        return (line.startswith("keep ") and len(figures) == 2 and figures[1] in FIGURES
                and int(figures) <= WORD_LENGTH)

    def _begins_own(self, line):
        """Whether a line that may come begins so, of a change with a price of its own."""
        if self._kind > OWN_CHANGE or self._last == (LAST_SIGN, SIGN_AHEAD):
            return False
        if len(line) <= FIRST_SIGN:
            return OWN_HEAD.startswith(line)
        if not line.startswith(OWN_HEAD) or not self._may_change(line[FIRST_SIGN]):
            return False
        if len(line) > FIRST_SIGN + 1 and line[FIRST_SIGN + 1] != " ":
            return False
        if len(line) > SECOND_SIGN and not self._may_become(line[FIRST_SIGN], line[SECOND_SIGN]):
            return False
        if len(line) > SECOND_SIGN + 1 and line[SECOND_SIGN + 1] != " ":
            return False
        return len(line) <= OWN_PRICE or (len(line) == OWN_PRICE + 1 and line[OWN_PRICE] in FIGURES)

    def _may_change(self, sign):
        """Whether a change of this sign may come behind the last one."""
        if sign not in row_signs() or sign < self._last[0]:
            return False
        greatest = SIGN_AHEAD if sign == LAST_SIGN else LAST_SIGN
        return (sign, greatest) > self._last

    def _may_become(self, sign, other):
        return other in row_signs() and other != sign and (sign, other) > self._last


def begins(line, head, figures):
    """Whether a line with this head and one of the figures behind it begins so."""
    if len(line) <= len(head):
        return head.startswith(line)
    return len(line) == len(head) + 1 and line.startswith(head) and line[-1] in figures
