"""The heaviest rows of the rooms of a view, and the rings of turns by which they grow without end.

A turn is kept here as a tuple (room, cutter, index, part, beside): the part at the index stands in a row of the room,
and beside it the other part, which is None if it is not in the row.
"""

from fourwalls.strands import needed
from fourwalls.views import NAMED, members, splits


def turns_of(book, view, rooms):
    """Return all turns of some rooms."""
    turns = []
    for room in rooms:
        for cutter, how, parts in splits(book, view, room):
            for index in NAMED[how]:
                beside = parts[1 - index] if how == "both" else None
                turns.append((room, cutter, index, parts[index], beside))
    return turns


def way_in(turns, start, goal):
    """Return as few turns as possible that lead from a room to another one, of those that are given."""
    last = {start: None}
    while goal not in last:
        found = {turn[3]: turn for turn in turns if turn[0] in last and turn[3] not in last}
        last.update(found)
    way = []
    room = goal
    while room != start:
        way.append(last[room])
        room = last[room][0]
    return way[::-1]


def ring_in(last):
    """Return a ring among the last turns that lead to rooms, a dict by rooms, or an empty list."""
    seen = {}
    for start in last:
        room = start
        while room in last and room not in seen:
            seen[room] = start
            room = last[room][0]
        # A room of an earlier walk leads to no ring, for that would have been found.
        if seen.get(room) == start:
            return ring_at(last, room)
    return []


def ring_at(last, room):
    """Return the ring through a room among the last turns that lead to rooms."""
    turns = [last[room]]
    while turns[-1][0] != room:
        turns.append(last[turns[-1][0]])
    return turns[::-1]


class Heaviest:
    """The heaviest rows of all members that were found so far: `best` has their weights by rooms."""

    def __init__(self, book, start, view, weights):
        self._start = start
        rooms = members(book, start, view)
        self._turns = turns_of(book, view, rooms)
        self.best = {room: weights(room) for room in rooms}
        self._items = {room: None for room in rooms}
        self._lines = []

    def grow(self):
        """Put a cut above the rows that were found, where this makes a heavier one; tell whether it does somewhere."""
        changes = {}
        for turn in self._turns:
            room = turn[0]
            weight = self.best[turn[3]] + self._gain(turn)
            if weight > (changes[room][0] if room in changes else self.best[room]):
                changes[room] = (weight, self._line(turn))
        # All lines are made ahead, so that they name those of earlier rounds alone.
        for room in changes:
            weight, line = changes[room]
            self.best[room] = weight
            self._items[room] = len(self._lines)
            self._lines.append(line)
        return len(changes) > 0

    def ring(self):
        """Return a ring of turns that gain with the rows that were found, or an empty list if there is none."""
        gains = {room: 0 for room in self.best}
        last = {}
        waiting = True
        while waiting:
            waiting = False
            for turn in self._turns:
                gain = gains[turn[0]] + self._gain(turn)
                if gain > gains[turn[3]]:
                    gains[turn[3]] = gain
                    last[turn[3]] = turn
                    waiting = True
            # Turns that made gains greater one behind the other can close a ring only if it gains.
            ring = ring_in(last)
            if ring:
                return ring
        return []

    def row(self):
        """Return the lines and the top of the row of the start."""
        lines, places = needed(self._lines, [self._items[self._start]])
        return lines, places[self._items[self._start]]

    def rise(self, ring):
        """Return the lines, the way and the ring of a Rise."""
        way = way_in(self._turns, self._start, ring[0][0])
        lines, places = needed(self._lines, [self._beside(turn) for turn in way + ring])
        told = [(turn[0], turn[1], turn[2], places[self._beside(turn)]) for turn in way + ring]
        return lines, told[:len(way)], told[len(way):]

    def _gain(self, turn):
        """Return the weight of the row beside the part to which a turn leads."""
        return 0 if turn[4] is None else self.best[turn[4]]

    def _beside(self, turn):
        """Return the item of the other part of a turn."""
        return "-" if turn[4] is None else self._items[turn[4]]

    def _line(self, turn):
        """Return the line of the row that is found by a turn."""
        room, cutter, index, part, _ = turn
        items = [self._items[part], self._beside(turn)]
        return (room, cutter, items[index], items[1 - index])
