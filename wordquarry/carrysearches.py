"""The least rows of deeds that break a promise of a carry rule.

One paper and one drop of its key are followed. Of the stamps of other things it only matters
whether they are below that of the packet with this drop, equal to it, or above it: they are told as
0, 1 and 2, and all of them as 0 as long as there is no packet. One more segment is enough: all that
others can do for the paper's segment is to lend it a stamp or a seen when they are merged.

A moment is a tuple (phase, clock, paper, buffer, rows, merge): buffer is (whether it has the paper,
what else), rows has (stamp, seen, kind) for each segment, merge is empty or (first, many, begun,
whether the paper is copied)."""

# Phases: the key is not dropped yet; dropped, but not flushed; the packet is there; forgotten.
BEFORE = 0
DROPPED = 1
PACKET = 2
FORGOTTEN = 3
AWAITED = 0
PUT = 1
LOST = 2
# What a segment has: the paper, marked or not; other papers; a paper that was put with the drop,
# has its key, and may be marked, too.
LIVING = 1
MARKED = 2
OTHER = 3
TWIN = 4
NOTHING = 0
FURTHER_DROP = 5
KEY = "a"
OTHER_KEY = "b"
DROPPED_KEY = "c"
FIRST_MOMENT = (0, 0, 0, (False, 0), (), ())
MOST_SEGMENTS = 2


class DeedSearch:
    """Goes through all moments, those of the fewest deeds first."""

    def __init__(self, rule, promise):
        self._rule = rule
        self._promise = promise
        self._applies = {(stamp, seen): rule.applies(1, stamp, seen)
                         for stamp in range(3) for seen in range(3)}
        self._forgets = {begun: rule.forgets(1, begun) for begun in (None, 0, 1, 2)}
        self._came = {FIRST_MOMENT: ()}
        self._waiting = [FIRST_MOMENT]

    def run(self):
        """A least row of deeds whose last one breaks the promise, None if none does."""
        at = 0
        while at < len(self._waiting):
            moment = self._waiting[at]
            after = self._applied(self._flushed(moment), 0, None)
            if self._breaks(after):
                return self._deeds_to(moment) + (("view",),)
            self._go_on(moment, ("view",), self._forgotten(after))
            self._go_on(moment, ("flush",), self._flushed(moment))
            for deed, further in self._changes_of_paper(moment) + changes_of_others(moment):
                self._go_on(moment, deed, further)
            for deed, further in self._merges(moment):
                self._go_on(moment, deed, further)
            at += 1
        return None

    def _go_on(self, moment, deed, further):
        if further not in self._came and self._may_break(further):
            self._came[further] = (moment, deed)
            self._waiting.append(further)

    def _deeds_to(self, moment):
        deeds = []
        while len(self._came[moment]) > 0:
            moment, deed = self._came[moment]
            deeds.append(deed)
        return tuple(deeds[::-1])

    def _breaks(self, moment):
        """Whether a view that tells this breaks the promise."""
        phase, _, paper, _, rows, _ = moment
        lives = LIVING in [kind for _, _, kind in rows]
        if self._promise == "gone":
            return phase >= PACKET and lives
        return phase >= PACKET and paper != AWAITED and not lives

    def _may_break(self, moment):
        """Whether the promise may still be broken from there on, with few segments."""
        phase, _, paper, _, rows, merge = moment
        if len(rows) > MOST_SEGMENTS:
            return False
        kinds = [kind for _, _, kind in rows]
        if self._promise == "there":
            return phase != FORGOTTEN or paper != PUT or LIVING not in kinds
        if paper == LOST:
            return False
        # a marked paper comes back only by a copy that was begun ahead of this
        return MARKED not in kinds or len(merge) > 0 and merge[3] and not self._rule.carries

    def _flushed(self, moment):
        phase, clock, paper, (has_paper, other), rows, merge = moment
        if phase != DROPPED and not has_paper and other == NOTHING:
            return moment
        if phase == DROPPED:
            phase = PACKET
            clock = 1
        elif phase > DROPPED:
            clock = 2
        if has_paper or other in (OTHER, TWIN):
            if self._rule.flushes_next and phase > DROPPED:
                clock = 2
            rows = rows + ((clock, clock, LIVING if has_paper else other),)
        return phase, clock, paper, (False, NOTHING), rows, merge

    def _applied(self, moment, first, many):
        """The moment behind packets that are applied to some segments, many being None for all
        from the first one on."""
        phase, clock, paper, buffer, rows, merge = moment
        end = len(rows) if many is None else first + many
        told = []
        for at in range(len(rows)):
            stamp, seen, kind = rows[at]
            if first <= at < end:
                if kind == LIVING and phase == PACKET and self._applies[stamp, seen]:
                    kind = MARKED
                seen = clock
            told.append((stamp, seen, kind))
        return phase, clock, paper, buffer, tuple(told), merge

    def _forgotten(self, moment):
        phase, clock, paper, buffer, rows, merge = moment
        if phase == PACKET and self._forgets[merge[2] if len(merge) > 0 else None]:
            phase = FORGOTTEN
        return phase, clock, paper, buffer, rows, merge

    def _changes_of_paper(self, moment):
        """The deeds on the key of the paper: a put and a drop, in the order that the promise
        looks at."""
        phase, clock, paper, (has_paper, other), rows, merge = moment
        ways = []
        if self._promise == "there":
            if phase == BEFORE:
                ways.append((("drop", KEY), (DROPPED,) + moment[1:]))
                ways.append((("exchange", KEY), (DROPPED, clock, PUT, (True, other), rows, merge)))
            elif paper == AWAITED:
                ways.append((("put", KEY), (phase, clock, PUT, (True, other), rows, merge)))
        elif paper == AWAITED:
            ways.append((("put", KEY), (phase, clock, PUT, (True, other), rows, merge)))
        elif phase == BEFORE and not has_paper:
            ways.append((("drop", KEY), (DROPPED,) + moment[1:]))
            twin = OTHER if other == OTHER else TWIN
            ways.append((("exchange", KEY), (DROPPED, clock, paper, (False, twin), rows, merge)))
        return ways

    def _merges(self, moment):
        """The beginnings of merges, or the ends of one."""
        rows, merge = moment[4:]
        if len(merge) > 0:
            return [(("give up",), moment[:5] + ((),)), (("end",), self._merge_ended(moment))]
        ways = []
        for first in range(len(rows)):
            for many in range(1, len(rows) - first + 1):
                # a twin may be marked: whether it is copied is not followed
                if rows[first][2] != TWIN or many > 1:
                    ways.append((("begin", first, many), self._merge_begun(moment, first, many)))
        return ways

    def _merge_begun(self, moment, first, many):
        if self._rule.begin_applies:
            moment = self._applied(moment, first, many)
        clock, rows = moment[1], moment[4]
        is_copied = LIVING in [kind for _, _, kind in rows[first:first + many]]
        return moment[:5] + ((first, many, clock, is_copied),)

    def _merge_ended(self, moment):
        first, many, begun, is_copied = moment[5]
        if self._rule.end_applies:
            moment = self._applied(moment, first, many)
        phase, clock, paper, buffer, rows, _ = moment
        sources = rows[first:first + many]
        kinds = [kind for _, _, kind in sources]
        if self._rule.stamp == "next" and phase > DROPPED:
            clock = 2
        if not is_copied and (LIVING in kinds or MARKED in kinds):
            paper = LOST
        made = ()
        if is_copied or OTHER in kinds:
            kind = OTHER
            if is_copied:
                kind = MARKED if MARKED in kinds and self._rule.carries else LIVING
            stamp = chosen(self._rule.stamp, [row[0] for row in sources], begun, clock)
            seen = chosen(self._rule.seen, [row[1] for row in sources], begun, clock)
            made = ((stamp, seen, kind),)
        return phase, clock, paper, buffer, rows[:first] + made + rows[first + many:], ()


def changes_of_others(moment):
    """The deeds on other keys."""
    phase, clock, paper, (has_paper, other), rows, merge = moment
    ways = []
    if other != OTHER:
        ways.append((("put", OTHER_KEY), (phase, clock, paper, (has_paper, OTHER), rows, merge)))
    if other == NOTHING and not has_paper and phase != DROPPED:
        ways.append((("drop", DROPPED_KEY),
                     (phase, clock, paper, (False, FURTHER_DROP), rows, merge)))
    return ways


def chosen(word, numbers, begun, clock):
    """The stamp or the seen that a rule gives to a copy."""
    if word == "least":
        return min(numbers)
    if word == "greatest":
        return max(numbers)
    return begun if word == "begun" else clock
