"""Stores: papers that are put, dropped, merged and committed."""

from wordquarry.carryrules import plain_carry
from wordquarry.errors import Broken, Merging, NoField, NoPaper, NotMerging, TakenKey
from wordquarry.figures import told_number
from wordquarry.indexlists import IndexList, all_files, list_from, marks_file, segment_files
from wordquarry.ledgers import Ledger
from wordquarry.mergerules import MergeRule
from wordquarry.protocols import plain_protocol
from wordquarry.readers import Reader
from wordquarry.seals import marked_from, marked_row
from wordquarry.segments import ENDS, merged, segment_from, segment_of


class HeldSegment:
    """A segment of a store: number is None as long as it was never committed; turn and marks are
    those of the last commit."""

    def __init__(self, segment, number, turn, marks):
        self.segment = segment
        self.number = number
        self.turn = turn
        self.marks = marks


class Store:
    """The papers of a disk; it changes with its deeds."""

    def __init__(self, disk, plan, protocol=None, carry=None, rule=None):
        self.disk = disk
        self._plan = plan
        self._protocol = plain_protocol() if protocol is None else protocol
        self._carry = plain_carry() if carry is None else carry
        self._rule = plain_rule() if rule is None else rule
        self._is_broken = False
        row = self._protocol.recover_on(disk, files_named)
        self._last = IndexList(0, 0, ()) if row is None else list_from("list", row)
        self._take(read_segments(disk, self._last.rows))

    def _take(self, segments):
        """Makes what was read all that the store has."""
        self._ledger = Ledger(self._carry)
        self._held = {}
        self._papers = {}
        self._serials = {}
        self._serial = 0
        self._deeds = 0
        self._waiting = {}
        self._sources = []
        self._copied = ()
        for held in segments:
            number = self._ledger.open_segment(held.segment.papers, held.marks)
            self._held[number] = held
            for index in range(held.segment.many):
                if index not in held.marks:
                    key, fields = held.segment.paper(index)
                    self._add_paper(key, fields)

    def _add_paper(self, key, fields):
        self._papers[self._serial] = (key, dict(fields))
        self._serials.setdefault(key, []).append(self._serial)
        self._serial += 1

    def _check_whole(self):
        if self._is_broken:
            raise Broken("store")

    def _check_fields(self, fields):
        for field in sorted(fields):
            if field not in self._plan.fields:
                raise NoField(field)

    def _check_paper(self, key):
        if key not in self._serials:
            raise NoPaper(key)

    def put(self, key, fields):
        """Puts a paper."""
        self._check_whole()
        if key in self._serials:
            raise TakenKey(key)
        self._check_fields(fields)
        self._ledger.put(key)
        self._count_put(key, fields)

    def _count_put(self, key, fields):
        """A paper was put into the ledger."""
        self._deeds += 1
        self._waiting[self._deeds] = dict(fields)
        self._add_paper(key, fields)

    def _forget(self, key):
        for serial in self._serials.pop(key):
            self._papers.pop(serial)

    def exchange(self, key, fields):
        """Drops a paper and puts another one with its key."""
        self._check_whole()
        self._check_paper(key)
        self._check_fields(fields)
        self._ledger.exchange(key)
        self._forget(key)
        self._count_put(key, fields)

    def drop(self, key):
        """Drops a paper."""
        self._check_whole()
        self._check_paper(key)
        self._ledger.drop(key)
        self._deeds += 1
        self._forget(key)

    def flush(self):
        """Makes a segment of what was put since the last flush."""
        self._check_whole()
        number = self._ledger.flush()
        if number is not None:
            keys = self._ledger.keys_of(number)
            places = self._ledger.places_of(number)
            papers = [(keys[at], self._waiting[places[at]]) for at in range(len(keys))]
            self._held[number] = HeldSegment(segment_of(papers, self._plan), None, 0, ())
        self._waiting = {}

    def _view(self):
        """What a view of the ledger tells: pairs (number, indices of the papers that live)."""
        self.flush()
        return self._ledger.view()

    def all_papers(self):
        """The keys of all papers, in the order of putting."""
        return tuple([key for key, _ in list(self._papers.values())])

    def text_of(self, key, field):
        """The text of a field of a paper, or None."""
        self._check_paper(key)
        self._check_fields([field])
        return self._papers[self._serials[key][-1]][1].get(field)

    def sizes(self):
        """The pairs (all papers, marked papers) of the segments."""
        return tuple([(self._held[number].segment.many, len(self._ledger.marks_of(number)))
                      for number in self._ledger.segments])

    def reader(self):
        """A reader of this moment."""
        self._check_whole()
        rows = [(self._held[number].segment, living) for number, living in self._view()]
        return Reader(rows, self._plan.fields)

    def going(self):
        """The merge that is going on, a pair (first, many), or None."""
        return self._ledger.merging

    def begin_merge(self, first=None, many=None):
        """Begins to merge some neighbours, or those that the rule chooses."""
        self._check_whole()
        if self.going() is not None:
            raise Merging()
        self.flush()
        if first is None and many is None:
            choice = self._rule.choice(self._living_and_marked())
            if choice is None:
                return None
            first, many = choice
        self._copied = self._ledger.begin(first, many)
        numbers = self._ledger.segments[first:first + many]
        self._sources = [self._held[number].segment for number in numbers]
        return self.going()

    def _living_and_marked(self):
        """How many papers live and are marked in each segment, behind a view."""
        return [(len(living), self._held[number].segment.many - len(living))
                for number, living in self._view()]

    def end_merge(self):
        """The copy takes the place of the segments."""
        self._check_whole()
        if self.going() is None:
            raise NotMerging()
        number = self._ledger.end()
        if number is not None:
            copy = merged(self._sources, self._copied)
            self._held[number] = HeldSegment(copy, None, 0, ())
        self._held = {one: self._held[one] for one in self._ledger.segments}
        self._sources = []
        self._copied = ()

    def give_up(self):
        """The merge is no longer going on."""
        self._check_whole()
        self._ledger.give_up()
        self._sources = []
        self._copied = ()

    def merge(self):
        """Merges until the rule chooses nothing; how often."""
        self._check_whole()
        many = 0
        while self.begin_merge() is not None:
            self.end_merge()
            many += 1
        return many

    def commit(self):
        """Makes what the store has stay; the number of the commit."""
        self._check_whole()
        self._view()
        new = {}
        further = []
        counter = self._last.counter
        for number in self._ledger.segments:
            held = self._held[number]
            name = held.number
            if name is None:
                name = self._free_number(counter)
                counter = name + 1
                rows = held.segment.told_files()
                new.update({file: rows[end] for file, end in zip(segment_files(name), ENDS)})
            marks = self._ledger.marks_of(number)
            turn = held.turn
            if marks != held.marks:
                turn = self._free_turn(name, turn)
                new[marks_file(name, turn)] = marked_row(held.segment.many, marks)
            further.append(HeldSegment(held.segment, name, turn, marks))
        rows = [(held.number, held.turn) for held in further]
        self._play(IndexList(self._last.commit + 1, counter, all_files(rows), rows), new)
        self._held = {number: held for number, held in zip(self._ledger.segments, further)}
        return self._last.commit

    def _free_number(self, number):
        """The least number from one on none of whose files is seen."""
        while any([name in self.disk.names for name in segment_files(number)]):
            number += 1
        return number

    def _free_turn(self, number, turn):
        """The least greater turn of the marks of a segment whose file is not seen."""
        turn += 1
        while marks_file(number, turn) in self.disk.names:
            turn += 1
        return turn

    def _play(self, index, new):
        """Plays a commit; if anything is raised meanwhile, the store stays broken."""
        kept = [name for name in index.files if name not in new]
        dropped = [name for name in self._last.files if name not in index.files]
        self._is_broken = True
        self._protocol.commit_on(self.disk, new, kept, dropped, index.told)
        self._is_broken = False
        self._last = index

    def rollback(self):
        """Gives up a merge, and reads what the last list names."""
        self._check_whole()
        self._take(read_segments(self.disk, self._last.rows))


def files_named(row):
    """The names of the files that a list names."""
    return list_from("list", row).files


def read_segments(disk, rows):
    """The segments that the rows of a list tell, in their order."""
    return [read_segment(disk, number, turn) for number, turn in rows]


def read_segment(disk, number, turn):
    """A segment and its marks, as its files tell them."""
    told = {}
    for name, end in zip(segment_files(number), ENDS):
        told[end] = disk.row(name)
    segment = segment_from("s" + told_number(number), told)
    marks = ()
    if turn > 0:
        name = marks_file(number, turn)
        marks = marked_from(name, disk.row(name))[1]
    return HeldSegment(segment, number, turn, marks)


def plain_rule():
    """A rule that merges three neighbours of one level."""
    return MergeRule("levels 1 3\nmerge 3")
