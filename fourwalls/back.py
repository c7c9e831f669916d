"""Whether a told plan can come, in how many ways, and how it begins.

A parting of a rectangle is kept as a tuple (sign, place, cutter, first, second): the cut of the room that the rectangle
makes has this sign, lies at this whole number of the floor, and parts it into these two rectangles.
"""

from math import comb

from fourwalls.errors import OtherFaces
from fourwalls.faces import is_room, parts_of
from fourwalls.grids import Plan, all_boxes, is_box
from fourwalls.papers import Paper
from fourwalls.plans import laid, place_of
from fourwalls.ratios import Ratio
from fourwalls.rooms import check_room
from fourwalls.values import copied, listed


def has_faces(plan, book):
    """Tell whether a value is a plan with the faces of a book."""
    return isinstance(plan, Plan) and plan.faces == book.faces


def made_rooms(plan):
    """Return the rooms that rectangles of a plan make, a dict by these rectangles, each behind those in it."""
    rooms = {box: plan.room_of(box) for box in all_boxes(plan.wide, plan.high)}
    return {box: rooms[box] for box in rooms if rooms[box] is not None}


def told_boxes(plan):
    """Return a dict of True by the rectangles of the told rooms of a plan."""
    return {told[:4]: True for told in plan.rooms()}


def halves_of(box):
    """Return the tuples (sign, place, first, second) of all ways to part a rectangle at a whole number."""
    west, north, east, south = box
    upright = [("|", at, (west, north, at, south), (at, north, east, south)) for at in range(west + 1, east)]
    level = [("-", at, (west, north, east, at), (west, at, east, south)) for at in range(north + 1, south)]
    return upright + level


def partings_of(book, rooms, box, known):
    """Return the partings of a rectangle that makes a room into two known ones that make its parts.

    The rooms are those that rectangles make, and known is a dict by rectangles.
    """
    cuts = [(cutter, book.cut(rooms[box], cutter)) for cutter in book.cutters]
    parted = [(cutter, cut[0], parts_of(rooms[box], cut)) for cutter, cut in cuts if cut != ""]
    found = []
    for sign, at, first, second in halves_of(box):
        if first in known and second in known:
            made = [rooms.get(first), rooms.get(second)]
            cutters = [cutter for cutter, own, parts in parted if own == sign and parts == made]
            found.extend([(sign, at, cutter, first, second) for cutter in cutters])
    return found


def ratios_at(box, wide, high):
    """Return the places of the sides of a rectangle on a floor of this size, as pairs."""
    west, north, east, south = box
    return tuple([place_of(Ratio(at, size)) for at, size in ((west, wide), (north, high), (east, wide), (south, high))])


def is_plan_of(floor, plan):
    """Tell whether the rooms of a laid floor are just those of a plan."""
    told = {ratios_at(row[:4], plan.wide, plan.high): row[4] for row in plan.rooms()}
    return told == {tuple([place_of(side) for side in box]): room for room, box in floor.values()}


class Come(Paper):
    """Placed steps that lead to the rooms of a plan."""

    WORD = "come"

    def __init__(self, book, start, plan, steps):
        super().__init__(book, start)
        self.plan = copied(plan)
        self._steps = listed(steps)

    def steps(self):
        """Return the steps as they were passed, a list if they were a list or tuple."""
        return copied(self._steps)

    def told(self):
        """Return the word."""
        return self.WORD

    def holds(self):
        """Tell whether the steps are a placed history that leads to just the rooms of the plan."""
        if not has_faces(self.plan, self.book) or not is_room(self.start, self.book.faces):
            return False
        floor, wrong = laid(self.book, self.start, self._steps)
        return wrong is None and is_plan_of(floor, self.plan)


class Barred(Paper):
    """Rectangles closed under partings, among which the whole one does not make the start."""

    WORD = "barred"

    def __init__(self, book, start, plan, boxes):
        super().__init__(book, start)
        self.plan = copied(plan)
        self._boxes = listed(boxes)

    def boxes(self):
        """Return the rectangles as they were passed, a list if they were a list or tuple."""
        return copied(self._boxes)

    def told(self):
        """Return the word."""
        return self.WORD

    def holds(self):
        """Tell whether all rectangles that can be born are in the list, and the whole one is not, as the start."""
        if not has_faces(self.plan, self.book) or not is_room(self.start, self.book.faces):
            return False
        if not isinstance(self._boxes, list):
            return False
        if not all([is_box(box, self.plan.wide, self.plan.high) for box in self._boxes]):
            return False
        known = {box: True for box in self._boxes}
        if not all([box in known for box in told_boxes(self.plan)]):
            return False
        rooms = made_rooms(self.plan)
        if any([box not in known and partings_of(self.book, rooms, box, known) != [] for box in rooms]):
            return False
        whole = self.plan.whole()
        return whole not in known or rooms.get(whole) != self.start


class Back:
    """A plan, looked at from its rooms back to the start: which of its rectangles are born, and how."""

    def __init__(self, book, start, plan):
        check_room(book, start)
        if not has_faces(plan, book):
            raise OtherFaces()
        self.book = book
        self.start = start
        self.plan = plan
        # For each born rectangle its partings into born ones; those in it come first.
        self._born = {}
        rooms = made_rooms(plan)
        told = told_boxes(plan)
        for box in rooms:
            partings = partings_of(book, rooms, box, self._born)
            if box in told or partings:
                self._born[box] = partings
        self._comes = plan.whole() in self._born and rooms[plan.whole()] == start

    def born(self):
        """Return the ascending list of the born rectangles."""
        return sorted(list(self._born))

    def comes(self):
        """Tell whether the plan can come."""
        return self._comes

    def trees(self):
        """Return the number of pairs of a plain history and places of its cuts that lead to the plan."""
        counts = {}
        for box in self._born:
            # A told room stands whole in just one way.
            ways = [counts[first] * counts[second] for _, _, _, first, second in self._born[box]]
            counts[box] = sum(ways) if ways else 1
        return counts[self.plan.whole()] if self._comes else 0

    def histories(self):
        """Return the number of histories with places of their cuts that lead to the plan, without idle steps."""
        counts = {}
        cuts = {}
        for box in self._born:
            counts[box] = 0 if self._born[box] else 1
            cuts[box] = 0
            for _, _, _, first, second in self._born[box]:
                cuts[box] = 1 + cuts[first] + cuts[second]
                # The cuts of both parts may follow one another in any order.
                orders = comb(cuts[first] + cuts[second], cuts[first])
                counts[box] += orders * counts[first] * counts[second]
        return counts[self.plan.whole()] if self._comes else 0

    def first_cuts(self):
        """Return the ascending list of the tuples (sign, place, cutter) of the first cuts of these histories."""
        if not self._comes:
            return []
        return sorted([parting[:3] for parting in self._born[self.plan.whole()]])

    def paper(self):
        """Return a Come that holds if the plan can come, else a Barred that holds."""
        if self._comes:
            return Come(self.book, self.start, self.plan, self._way_in())
        return Barred(self.book, self.start, self.plan, self.born())

    def _way_in(self):
        """Return placed steps that lead to the plan, which can come."""
        steps = []
        waiting = [("", self.plan.whole())]
        while waiting:
            address, box = waiting.pop()
            if self._born[box]:
                sign, at, cutter, first, second = self._born[box][0]
                near, far = (box[0], box[2]) if sign == "|" else (box[1], box[3])
                steps.append((address, cutter, at - near, far - near))
                waiting.extend([(address + "0", first), (address + "1", second)])
        return steps

    def __len__(self):
        return len(self.plan)

    def __bool__(self):
        return True

    def __repr__(self):
        return f"Back({len(self.plan)} rooms)"
