"""Live floors: cuts with exact places that can be done, taken back and made again."""

from fourwalls.errors import (
    Full, InvalidAddress, InvalidCutter, InvalidLimit, InvalidPlace, InvalidStep, InvalidView, NothingLeft, NotUnited,
)
from fourwalls.faces import is_address, is_letter, is_number
from fourwalls.plans import boxes_in, check_walk, is_place, laid, lay, meeting_in, walk_in
from fourwalls.ratios import Ratio
from fourwalls.rooms import check_room
from fourwalls.strands import strand_of
from fourwalls.touch import stands
from fourwalls.views import rows_behind


def has_step_form(value, cutters):
    """Tell whether a value has the form of a placed step, to a room that may stand or not."""
    if not isinstance(value, tuple) or len(value) != 4:
        return False
    address, cutter, top, bottom = value
    return is_address(address) and is_letter(cutter, cutters) and is_place(top, bottom)


def check_standing(floor, address):
    """Raise InvalidAddress unless a value is the address of a room of a laid floor."""
    if not stands(floor, address):
        raise InvalidAddress(address)


def check_side(view):
    """Raise InvalidView unless a value is the view of a side."""
    if not is_letter(view, "NESW"):
        raise InvalidView(view)


class Floor:
    """A floor that stands now, with exact places of its cuts, and steps that can be undone and redone.

    The cuts, the laid floor behind them (see plans.py), and the pairs of both that are kept for undo and redo are
    never changed in place, so twins may share them.
    """

    MOST = 99

    def __init__(self, book, start, *, limit=60):
        check_room(book, start)
        self.book = book
        self.start = start
        self.busy = False
        self._cuts = []
        self._floor, _ = laid(book, start, [])
        self._before = []
        self._behind = []
        self.limit = limit

    @property
    def limit(self):
        """The greatest number of rooms that cuts may lead to."""
        return self._limit

    @limit.setter
    def limit(self, value):
        """Give the floor another limit."""
        if not is_number(value, len(self._floor), Floor.MOST):
            raise InvalidLimit(value)
        self._limit = value

    def set_limit(self, value):
        """Give the floor another limit; it is no step of the history."""
        self.busy = True
        try:
            self.limit = value
        finally:
            self.busy = False

    def cut(self, address, cutter, top=1, bottom=2):
        """Let a cutter come to a room, and return the cut."""
        self.busy = True
        try:
            check_standing(self._floor, address)
            if not is_letter(cutter, self.book.cutters):
                raise InvalidCutter(cutter)
            if not is_place(top, bottom):
                raise InvalidPlace((top, bottom))
            return self._cut_by([(address, cutter, top, bottom)])[0]
        finally:
            self.busy = False

    def cut_all(self, *steps):
        """Do all of some placed steps or none, as one step of the history, and return the list of the cuts."""
        self.busy = True
        try:
            for at, step in enumerate(steps):
                if not has_step_form(step, self.book.cutters):
                    raise InvalidStep(at)
            return self._cut_by(steps)
        finally:
            self.busy = False

    def unite(self, address):
        """Take back a cut whose parts both stand whole, and return its cutter."""
        self.busy = True
        try:
            cutters = {step[0]: step[1] for step in self._cuts}
            if not isinstance(address, str) or address not in cutters:
                raise InvalidAddress(address)
            if address + "0" not in self._floor or address + "1" not in self._floor:
                raise NotUnited(address)
            cuts = [step for step in self._cuts if step[0] != address]
            self._step_to(cuts, laid(self.book, self.start, cuts)[0])
            return cutters[address]
        finally:
            self.busy = False

    def undo(self):
        """Take the last step back."""
        self.busy = True
        try:
            self._move(self._before, self._behind)
        finally:
            self.busy = False

    def redo(self):
        """Make the step again that was taken back last."""
        self.busy = True
        try:
            self._move(self._behind, self._before)
        finally:
            self.busy = False

    def history(self):
        """Return the pair of the numbers of steps that can be undone and redone."""
        return len(self._before), len(self._behind)

    def forget(self):
        """Keep what stands, but no step that can be undone or redone."""
        self._before = []
        self._behind = []

    def cuts(self):
        """Return the placed steps of the cuts that stand, in the order in which they were done."""
        return list(self._cuts)

    def plain(self):
        """Return the placed steps of the cuts that stand, ascending by the addresses."""
        return sorted(self._cuts)

    def rooms(self):
        """Return the list of the pairs (address, room), ascending."""
        return [(address, self._floor[address][0]) for address in sorted(list(self._floor))]

    def walk(self):
        """Generate the pairs (address, room), ascending."""
        for pair in self.rooms():
            yield pair

    def boxes(self):
        """Return the tuples (address, room, west, north, east, south) of the rooms, ascending."""
        return boxes_in(self._floor)

    def room(self, address):
        """Return the room with an address."""
        check_standing(self._floor, address)
        return self._floor[address][0]

    def area(self, address):
        """Return the area of the room with an address, a ratio."""
        check_standing(self._floor, address)
        west, north, east, south = self._floor[address][1]
        return (east - west) * (south - north)

    def meeting(self):
        """Return the ascending list of the triples (sign, address, address) of the rooms that meet."""
        return meeting_in(self._floor)

    def side(self, view):
        """Return the list of the addresses along a side."""
        check_side(view)
        return rows_behind(self.book, self.start, self._plain_history(), view)[0]

    def side_strand(self, view):
        """Return a strand of the row along a side."""
        check_side(view)
        return strand_of(self.book, self.start, self._plain_history(), view)

    def seen(self, view, at):
        """Return the list of the addresses of the rooms that a walk goes through at a ratio, in order."""
        check_walk(view)
        return walk_in(self._floor, view, at)

    def twin(self):
        """Return an independent floor with the same cuts and steps."""
        other = Floor(self.book, self.start, limit=Floor.MOST)
        other._cuts = self._cuts
        other._floor = self._floor
        other._before = list(self._before)
        other._behind = list(self._behind)
        other._limit = self._limit
        return other

    def _cut_by(self, steps):
        """Do placed steps that have the right form, as one step of the history, and return the list of the cuts."""
        cuts = list(self._cuts)
        floor = dict(self._floor)
        found = []
        for address, cutter, top, bottom in steps:
            check_standing(floor, address)
            cut = self.book.cut(floor[address][0], cutter)
            if cut != "":
                if len(floor) >= self._limit:
                    raise Full(self._limit)
                place = Ratio(top, bottom)
                lay(self.book, floor, (address, cutter, top, bottom))
                cuts.append((address, cutter, place.top, place.bottom))
            found.append(cut)
        # Where all cutters went away, what was undone can still be redone.
        if len(cuts) > len(self._cuts):
            self._step_to(cuts, floor)
        return found

    def _step_to(self, cuts, floor):
        """Make a step of the history that leads to these cuts."""
        self._before.append((self._cuts, self._floor))
        self._behind = []
        self._cuts = cuts
        self._floor = floor

    def _move(self, origin, other):
        """Go to the last pair of one of the lists that are kept, and put what stands now into the other one."""
        if origin == []:
            raise NothingLeft()
        other.append((self._cuts, self._floor))
        self._cuts, self._floor = origin.pop()

    def _plain_history(self):
        """Return the plain history of the cuts that stand."""
        return [step[:2] for step in self.plain()]

    def __eq__(self, other):
        if not isinstance(other, Floor) or self.book != other.book or self.start != other.start:
            return False
        return sorted(self._cuts) == sorted(other._cuts)

    def __len__(self):
        return len(self._floor)

    def __bool__(self):
        return True

    def __repr__(self):
        return f"Floor({len(self._floor)} rooms)"
