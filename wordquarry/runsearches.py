"""The least runs that break promises, looked for in the graph of a protocol."""

from heapq import heappop, heappush

from wordquarry.rungraphs import FIRST_NODE, RunGraph
from wordquarry.runplaying import RunPlayer
from wordquarry.protocoltexts import LISTS

LIST_PROMISES = ("found", "kept")
FILE_PROMISES = ("whole", "fresh", "clean")
FILE_NAME = "f0"


class RunSearch:
    """Goes through a graph by ascending weights; labels leads from promises to those along the
    least way to a place where one is broken."""

    def __init__(self, graph):
        self._graph = graph
        self._queue = []
        self._steps = []
        self._settled = {}
        self.labels = {}

    def run(self, wanted):
        """Looks for the promises that are wanted."""
        self._add(0, (FIRST_NODE, None, None))
        while len(self._queue) > 0 and len(self.labels) < len(wanted):
            weight, at = heappop(self._queue)
            node = self._steps[at][0]
            if node in self._settled:
                continue
            self._settled[node] = True
            if isinstance(node, str):
                if node in wanted:
                    self.labels[node] = self._labels_to(at)
                continue
            for further, more, label in self._graph.ways_from(node):
                if further not in self._settled:
                    self._add(weight + more, (further, at, label))

    def _add(self, weight, step):
        heappush(self._queue, (weight, len(self._steps)))
        self._steps.append(step)

    def _labels_to(self, at):
        labels = []
        while at is not None:
            _, before, label = self._steps[at]
            labels.append(label)
            at = before
        return labels[-2::-1]


def broken_promises(protocol, wanted):
    """A dict from those of some promises that are not kept to the labels along a least way."""
    lists = [promise for promise in LIST_PROMISES if promise in wanted]
    found = found_in(RunGraph(protocol, True, False), lists)
    files = [promise for promise in FILE_PROMISES if promise in wanted]
    # what is not broken by any of more runs than there are need not be looked for
    files = list(found_in(RunGraph(protocol, False, True), files))
    found.update(found_in(RunGraph(protocol, True, True), files))
    return found


def found_in(graph, wanted):
    search = RunSearch(graph)
    if len(wanted) > 0:
        search.run(wanted)
    return search.labels


class RunMaker:
    """Makes a run of the labels along a way."""

    def __init__(self, protocol):
        self._player = RunPlayer(protocol)
        self._events = []
        self._begun = ()
        self._lines = 0
        self._part = None
        self._landing = []

    def made(self, labels):
        """The run of some labels."""
        for label in labels:
            if label[0] in ("commit", "recovery"):
                self._begun = label
            elif label[0] in ("line", "part"):
                self._go_behind(label)
            elif label[0] == "end":
                self._add(self._begun + (None, 0, None))
                self._reset()
            else:
                self._end(label)
        if len(self._begun) > 0:
            self._events.append(self._begun + (None, 0, None))
        return tuple(self._events)

    def _reset(self):
        self._begun = ()
        self._lines = 0
        self._part = None

    def _add(self, event):
        self._player.play(event, len(self._events))
        self._events.append(event)

    def _go_behind(self, label):
        kind, lands = label
        if kind == "line":
            self._lines += 1
        else:
            self._part = 0
        if lands == "synced":
            self._landing = []
        elif lands is not None:
            self._landing.append(lands)

    def _end(self, label):
        """The process ends, by a stop or a cut."""
        if len(self._begun) > 0:
            self._add(self._begun + (self._lines, 0, self._part))
        self._reset()
        if label[0] == "stop":
            self._add(label)
            return
        places = [at for at in range(len(self._landing)) if self._landing[at]]
        disk = self._player.disk.twin()
        disk.cut(places, {})
        torn = [disk.file_of((LISTS + (FILE_NAME,))[at]) for at in label[1]]
        self._add(("cut", tuple(places), tuple([(number, 0) for number in sorted(torn)])))
        self._landing = []
