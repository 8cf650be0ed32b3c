"""Near rules: which second rows are near to a first one."""

from wordquarry.errors import BadText
from wordquarry.nearreading import NearReader


class NearRule:
    """What edits of a row cost, and how much they may cost together; it never changes."""

    def __init__(self, text):
        reader = read_rule(text)
        self.text = text
        self.put_cost = reader.prices.get("put")
        self.drop_cost = reader.prices.get("drop")
        self.change = reader.prices.get("change")
        self.swap = reader.prices.get("swap")
        self.own_prices = reader.own_prices
        self.keep = reader.keep
        self.limit = reader.limit

    def __eq__(self, other):
        return isinstance(other, NearRule) and self.text == other.text

    def change_price(self, sign, other):
        """The price of a sign that becomes another one, 0 if it is kept; None if it is not let."""
        if sign == other:
            return 0
        return self.own_prices.get((sign, other), self.change)

    def price(self, word, other):
        """The price of a pair of rows, None if the second one is not near to the first one."""
        kept = min(self.keep, len(word))
        if other[:kept] != word[:kept]:
            return None
        return self._price_of_rests(word[kept:], other[kept:])

    def _price_of_rests(self, word, other):
        """The price without keep, by rows of the prices of beginnings, those that are let alone."""
        ahead = {}
        now = self._with_puts({0: 0}, len(other))
        for at in range(len(word)):
            further = {}
            for place in now:
                self._drop_or_change(further, now[place], word[at], other, place)
            if at > 0 and self.swap is not None and word[at - 1] != word[at]:
                for place in ahead:
                    if other[place:place + 2] == word[at] + word[at - 1]:
                        self._lower(further, place + 2, ahead[place] + self.swap)
            ahead = now
            now = self._with_puts(further, len(other))
            if len(now) == 0 and len(ahead) == 0:
                return None
        return now.get(len(other))

    def _drop_or_change(self, further, price, sign, other, place):
        """Lowers the prices that are had by a dropped, changed or kept sign."""
        if self.drop_cost is not None:
            self._lower(further, place, price + self.drop_cost)
        if place < len(other):
            change = self.change_price(sign, other[place])
            if change is not None:
                self._lower(further, place + 1, price + change)

    def _with_puts(self, prices, length):
        """The prices when signs may be put in, too."""
        if self.put_cost is None:
            return prices
        found = dict(prices)
        for place in sorted(prices):
            price = found[place] + self.put_cost
            while place < length and price <= self.limit and price < found.get(place + 1, price + 1):
                place += 1
                found[place] = price
                price += self.put_cost
        return found

    def _lower(self, prices, place, price):
        if price <= self.limit and price < prices.get(place, price + 1):
            prices[place] = price

    def turned(self):
        """The rule that says near of (v, u) where this one says it of (u, v), without keep."""
        lines = []
        for head, price in (("put", self.drop_cost), ("drop", self.put_cost), ("change", self.change),
                            ("swap", self.swap)):
            if price is not None:
                lines.append(head + " " + str(price))
        turned_prices = {(two, one): self.own_prices[one, two] for one, two in self.own_prices}
        for one, two in sorted(turned_prices):
            lines.append(" ".join(["change", one, two, str(turned_prices[one, two])]))
        lines.append("limit " + str(self.limit))
        return NearRule("\n".join(lines))


def read_rule(text):
    """The reader that has read a right text; BadText for any other value."""
    if not isinstance(text, str):
        raise BadText(1, 1)
    reader = NearReader()
    line = 1
    column = 1
    for sign in text:
        if not reader.goes_on(sign):
            raise BadText(line, column)
        reader.read(sign)
        line, column = (line + 1, 1) if sign == "\n" else (line, column + 1)
    if not reader.is_whole():
        raise BadText(line, column)
    reader.end()
    return reader
