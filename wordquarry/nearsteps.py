"""The rows near to a word, read sign by sign."""


class NearSteps:
    """The states of second rows, by a first word and a rule.

    A state is the number of kept signs that were read while some are to come; behind them a pair:
    tuples (place, price) for the beginnings of the rest of the word that are near enough, and such
    ones ahead of two signs of a swap, the second of which was read; () if no near row goes on."""

    def __init__(self, word, rule):
        self._rule = rule
        kept = min(rule.keep, len(word))
        self._kept = word[:kept]
        self._rest = word[kept:]

    def begun(self):
        return 0 if len(self._kept) > 0 else self._told({0: 0}, ())

    def step(self, state, sign):
        """The state behind one more sign; None stands for one that neither the word nor the rule
        names."""
        if state == ():
            return ()
        if isinstance(state, int):
            if self._kept[state] != sign:
                return ()
            return self._told({0: 0}, ()) if state + 1 == len(self._kept) else state + 1
        prices, swaps = state
        found = {}
        for place, price in prices:
            self._lower(found, place, price, self._rule.put_cost)
            if place < len(self._rest):
                change = self._rule.change_price(self._rest[place], sign)
                self._lower(found, place + 1, price, change)
        for place, price in swaps:
            if self._rest[place] == sign:
                self._lower(found, place + 2, price, 0)
        return self._told(found, self._next_swaps(prices, sign))

    def price(self, state):
        """The price of what was read, None if it is not near."""
        if state == () or isinstance(state, int) or len(state[0]) == 0:
            return None
        place, price = state[0][-1]
        return price if place == len(self._rest) else None

    def _lower(self, found, place, price, more):
        """Notes a price if it is let, is within the limit and is the least one of its place."""
        if more is not None and price + more <= self._rule.limit:
            found[place] = min(price + more, found.get(place, price + more))

    def _told(self, found, swaps):
        """The state of these prices; beginnings are lengthened by signs that are left out."""
        prices = []
        for place in range(len(self._rest) + 1):
            if place in found:
                prices.append((place, found[place]))
                self._lower(found, place + 1, found[place], self._rule.drop_cost)
        return (tuple(prices), swaps) if len(prices) + len(swaps) > 0 else ()

    def _next_swaps(self, prices, sign):
        swaps = []
        for place, price in prices:
            if self._rest[place + 1:place + 2] == sign and self._rest[place] != sign:
                if self._rule.swap is not None and price + self._rule.swap <= self._rule.limit:
                    swaps.append((place, price + self._rule.swap))
        return tuple(swaps)
