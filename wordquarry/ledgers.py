"""Ledgers: which papers live in which segment, by the keys of papers alone."""

from wordquarry.errors import BadNumber, Merging, NotMerging
from wordquarry.signs import is_integer


class LedgerSegment:
    """Some papers of a ledger: their keys and places, which of them are marked, two numbers."""

    def __init__(self, keys, places, marks, stamp, seen):
        self.keys_told = tuple(keys)
        self.places = tuple(places)
        self.marks = {index: True for index in marks}
        self.stamp = stamp
        self.seen = seen
        self.indices = {}
        for index in range(len(self.keys_told)):
            self.indices.setdefault(self.keys_told[index], []).append(index)

    def living(self):
        """The indices of the papers that are not marked."""
        return tuple([index for index in range(len(self.keys_told)) if index not in self.marks])


class Ledger:
    """Segments, a buffer, packets of drops and a clock; it changes with its deeds."""

    def __init__(self, rule):
        self.segments = ()
        self.merging = None
        self.clock = 0
        self._rule = rule
        self._deeds = 0
        self._made = 0
        self._held = {}
        self._buffer = {}
        self._dropped = {}
        self._packets = []
        self._begun = None
        self._copied = ()

    def put(self, key):
        """A paper is put."""
        self._deeds += 1
        self._buffer.setdefault(key, []).append(self._deeds)

    def drop(self, key):
        """All papers with a key that were put so far are dropped."""
        self._deeds += 1
        self._buffer.pop(key, None)
        self._dropped[key] = True

    def exchange(self, key):
        """A drop and a put at one place."""
        self.drop(key)
        self._buffer[key] = [self._deeds]

    def flush(self):
        """What lies in the buffer becomes a segment; its number, None if there is none."""
        if len(self._buffer) + len(self._dropped) == 0:
            return None
        self.clock += 1
        if len(self._dropped) > 0:
            self._packets.append((self.clock, tuple(sorted(self._dropped))))
            self._dropped = {}
        if len(self._buffer) == 0:
            return None
        if self._rule.flushes_next:
            self.clock += 1
        rows = sorted([(place, key) for key in self._buffer for place in self._buffer[key]])
        self._buffer = {}
        segment = LedgerSegment([key for _, key in rows], [place for place, _ in rows], (),
                                self.clock, self.clock)
        number = self._number_of(segment)
        self.segments = self.segments + (number,)
        return number

    def _number_of(self, segment):
        """The number that a new segment gets."""
        self._made += 1
        self._held[self._made] = segment
        return self._made

    def open_segment(self, keys, marks):
        """A segment that was there ahead of all deeds; its number."""
        number = self._number_of(LedgerSegment(keys, [0] * len(keys), marks, 0, 0))
        self.segments = self.segments + (number,)
        return number

    def view(self):
        """The pairs (number, indices of the papers that live) of all segments."""
        self.flush()
        self._apply(self.segments)
        left = []
        for packet in self._packets:
            if not self._rule.forgets(packet[0], self._begun):
                left.append(packet)
        self._packets = left
        return tuple([(number, self._held[number].living()) for number in self.segments])

    def _apply(self, numbers):
        """Applies packets to some segments."""
        for number in numbers:
            segment = self._held[number]
            for packet, keys in self._packets:
                if self._rule.applies(packet, segment.stamp, segment.seen):
                    for key in keys:
                        for index in segment.indices.get(key, []):
                            segment.marks[index] = True
            segment.seen = self.clock

    def begin(self, first, many):
        """Begins a merge; for each source the indices of the papers that are copied."""
        if self.merging is not None:
            raise Merging()
        if not is_integer(first) or not 0 <= first < len(self.segments):
            raise BadNumber("first", first)
        if not is_integer(many) or not 1 <= many <= len(self.segments) - first:
            raise BadNumber("many", many)
        self.merging = (first, many)
        if self._rule.begin_applies:
            self._apply(self._merged_numbers())
        self._begun = self.clock
        self._copied = tuple([self._held[number].living() for number in self._merged_numbers()])
        return self._copied

    def _merged_numbers(self):
        first, many = self.merging
        return self.segments[first:first + many]

    def end(self):
        """Ends the merge; the number of the new segment, or None."""
        if self.merging is None:
            raise NotMerging()
        numbers = self._merged_numbers()
        if self._rule.end_applies:
            self._apply(numbers)
        made = ()
        if any([len(indices) > 0 for indices in self._copied]):
            made = (self._number_of(self._copy([self._held[number] for number in numbers])),)
        first, many = self.merging
        self.segments = self.segments[:first] + made + self.segments[first + many:]
        for number in numbers:
            self._held.pop(number)
        self.give_up()
        return made[0] if len(made) > 0 else None

    def _copy(self, sources):
        """The segment of the papers that were copied."""
        if self._rule.stamp == "next":
            self.clock += 1
        rows = []
        for source, indices in zip(sources, self._copied):
            for index in indices:
                rows.append((source.keys_told[index], source.places[index], index in source.marks))
        marks = [at for at in range(len(rows)) if rows[at][2] and self._rule.carries]
        stamp = self._chosen(self._rule.stamp, [source.stamp for source in sources])
        seen = self._chosen(self._rule.seen, [source.seen for source in sources])
        return LedgerSegment([row[0] for row in rows], [row[1] for row in rows], marks, stamp, seen)

    def _chosen(self, word, numbers):
        """The number that a word means, numbers being those of the sources."""
        if word == "least":
            return min(numbers)
        if word == "greatest":
            return max(numbers)
        return self._begun if word == "begun" else self.clock

    def give_up(self):
        """The merge is no longer going on."""
        if self.merging is None:
            raise NotMerging()
        self.merging = None
        self._begun = None
        self._copied = ()

    def _segment(self, number):
        if not is_integer(number) or number not in self.segments:
            raise BadNumber("segment", number)
        return self._held[number]

    def keys_of(self, number):
        """The keys of a segment."""
        return self._segment(number).keys_told

    def places_of(self, number):
        """The places of the papers of a segment, 0 for those of an opened one."""
        return self._segment(number).places

    def marks_of(self, number):
        """The indices of the marked papers of a segment."""
        return tuple(sorted(self._segment(number).marks))

    def stamps_of(self, number):
        """The numbers (stamp, seen) of a segment."""
        segment = self._segment(number)
        return (segment.stamp, segment.seen)

    def packets(self):
        """The pairs (stamp, keys) of the packets, by stamps."""
        return tuple(self._packets)
