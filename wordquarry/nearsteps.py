"""The rows near to a word, read sign by sign."""


class NearSteps:
    """The states of second rows, by a first word and a rule.

    A state is the number of kept signs that were read while some are to come; behind them a tuple
    of the prices of the beginnings of the rest of the word, and one of those at which the second
    sign of a swap is to come; () if no near row goes on."""

    def __init__(self, word, rule):
        self._rule = rule
        kept = min(rule.keep, len(word))
        self._kept = word[:kept]
        self._rest = word[kept:]
        self._far = rule.limit + 1

    def begun(self):
        return 0 if len(self._kept) > 0 else self._first_prices()

    def step(self, state, sign):
        """The state behind one more sign; None stands for one that neither the word nor the rule
        names."""
        if state == ():
            return ()
        if isinstance(state, int):
            if self._kept[state] != sign:
                return ()
            return self._first_prices() if state + 1 == len(self._kept) else state + 1
        prices, swaps = state
        return self._told(self._next_prices(prices, swaps, sign), self._next_swaps(prices, sign))

    def price(self, state):
        """The price of what was read, None if it is not near."""
        if state == () or isinstance(state, int) or state[0][-1] == self._far:
            return None
        return state[0][-1]

    def _told(self, prices, swaps):
        if min(prices) == self._far and min(swaps, default=self._far) == self._far:
            return ()
        return tuple(prices), tuple(swaps)

    def _first_prices(self):
        prices = [0]
        for _ in self._rest:
            prices.append(self._sum(prices[-1], self._rule.drop))
        return self._told(prices, [self._far] * (len(self._rest) - 1))

    def _sum(self, price, more):
        """A price and what is added; too much if that is not let."""
        return self._far if more is None else min(price + more, self._far)

    def _next_prices(self, prices, swaps, sign):
        found = [self._sum(prices[0], self._rule.put)]
        for at in range(len(self._rest)):
            change = self._rule.change_price(self._rest[at], sign)
            least = min(self._sum(prices[at + 1], self._rule.put), self._sum(prices[at], change),
                        self._sum(found[at], self._rule.drop))
            if at > 0 and self._rest[at - 1] == sign:
                least = min(least, swaps[at - 1])
            found.append(least)
        return found

    def _next_swaps(self, prices, sign):
        return [self._sum(prices[at], self._rule.swap)
                if self._rest[at + 1] == sign and self._rest[at] != sign else self._far
                for at in range(len(self._rest) - 1)]
