"""The least number of cuts by which a row leads a machine to a bad state, and the strand of such a row."""

from heapq import heappop, heappush

from fourwalls.strands import Strand, needed
from fourwalls.views import NAMED, members, splits


def uses_of(book, view, rooms):
    """Return for each room its uses: the tuples (room, cutter, rule, index, other part) whose rule names it."""
    uses = {room: [] for room in rooms}
    for room in rooms:
        for cutter, how, parts in splits(book, view, room):
            for index in NAMED[how]:
                uses[parts[index]].append((room, cutter, how, index, parts[1 - index]))
    return uses


class Search:
    """Finds for triples (room, state, end), those with the fewest cuts first, how the room leads from state to end.

    A way is None for a whole room, or a tuple (cutter, first, second) with the triples of the parts, or `-` for a
    part that is not in the row.
    """

    def __init__(self, book, view, machine, rooms):
        self._uses = uses_of(book, view, rooms)
        self._queue = []
        self._cuts = {}
        self._ways = {}
        self._items = {}
        self._lines = []
        self._ends = {}
        self._states = {}
        for room in rooms:
            for state in range(machine.size):
                self._offer(0, (room, state, machine(room, state)), None)

    def _offer(self, cuts, triple, way):
        """Take note of a way with this number of cuts, if no better one is known."""
        if triple not in self._cuts or cuts < self._cuts[triple]:
            self._cuts[triple] = cuts
            self._ways[triple] = way
            heappush(self._queue, (cuts, triple))

    def settle(self):
        """Return the next triple with the fewest cuts; no better way to it can be found any more."""
        _, triple = heappop(self._queue)
        while triple in self._items:
            _, triple = heappop(self._queue)
        self._items[triple] = self._item_of(triple)
        room, state, end = triple
        self._ends.setdefault((room, state), []).append(end)
        self._states.setdefault((room, end), []).append(state)
        for use in self._uses[room]:
            self._use(triple, use)
        return triple

    def _item_of(self, triple):
        """Return the item of a settled triple, and put in its line."""
        way = self._ways[triple]
        if way is None:
            return None
        cutter, first, second = way
        self._lines.append((triple[0], cutter, self._items.get(first, "-"), self._items.get(second, "-")))
        return len(self._lines) - 1

    def _use(self, triple, use):
        """Offer what a settled triple leads to as a part in one use."""
        _, state, end = triple
        room, cutter, how, index, other = use
        cuts = self._cuts[triple] + 1
        if how != "both":
            way = (cutter, triple, "-") if index == 0 else (cutter, "-", triple)
            self._offer(cuts, (room, state, end), way)
        elif index == 0:
            for last in self._ends.get((other, end), []):
                beside = (other, end, last)
                self._offer(cuts + self._cuts[beside], (room, state, last), (cutter, triple, beside))
        else:
            for first in self._states.get((other, state), []):
                beside = (other, first, state)
                self._offer(cuts + self._cuts[beside], (room, first, end), (cutter, beside, triple))

    def strand_to(self, triple):
        """Return the lines and the top of a strand of a settled triple."""
        lines, places = needed(self._lines, [self._items[triple]])
        return lines, places[self._items[triple]]


def least_broken(book, start, view, machine):
    """Return a strand with as few cuts as possible that leads a machine to a bad state; there must be one."""
    search = Search(book, view, machine, members(book, start, view))
    triple = search.settle()
    while triple[:2] != (start, 0) or not machine.is_bad(triple[2]):
        triple = search.settle()
    lines, top = search.strand_to(triple)
    return Strand(book, start, view, lines, top)
