"""Whether two books act alike: the rooms that show it, or a history behind which they do not."""

from fourwalls.books import Book
from fourwalls.errors import InvalidStep, OtherCutters, OtherFaces
from fourwalls.faces import is_room
from fourwalls.papers import Paper
from fourwalls.rooms import check_room, grown, origins_of, reached, steps_along, turns_to
from fourwalls.values import copied, listed


def is_beside(other, book):
    """Tell whether a value is a book with the faces and the cutters of another one."""
    return isinstance(other, Book) and other.faces == book.faces and other.cutters == book.cutters


def unlike_cutter(book, other, room):
    """Return the first cutter whose cuts of a room in two books are unlike, or None."""
    for cutter in book.cutters:
        if book.cut(room, cutter) != other.cut(room, cutter):
            return cutter
    return None


def cuts_behind(book, start, history):
    """Return the cuts that stand behind a history, a dict by addresses, or None if it cannot be played."""
    try:
        _, cuts = grown(book, start, history)
    except InvalidStep:
        return None
    # Unlike cuts may make equal rooms, as |aa and -aa do of aaaa, so the rooms alone do not tell a floor.
    return {address: book.cut(room, cutter) for address, (room, cutter) in cuts.items()}


class Alike(Paper):
    """Rooms in which two books cut alike, closed under these cuts."""

    WORD = "alike"

    def __init__(self, book, other, start, rooms):
        super().__init__(book, start)
        self.other = copied(other)
        self._rooms = listed(rooms)

    def rooms(self):
        """Return the rooms as they were passed, a list if they were a list or tuple."""
        return copied(self._rooms)

    def told(self):
        """Return the word."""
        return self.WORD

    def holds(self):
        """Tell whether the start is among the rooms, and both books cut each room alike into rooms among them."""
        if not is_beside(self.other, self.book) or not isinstance(self._rooms, list):
            return False
        if not all([is_room(room, self.book.faces) for room in self._rooms]):
            return False
        known = {room: True for room in self._rooms}
        if not is_room(self.start, self.book.faces) or self.start not in known:
            return False
        for room in known:
            if unlike_cutter(self.book, self.other, room) is not None:
                return False
            for cutter in self.book.cutters:
                if not all([part in known for part in self.book.parts(room, cutter)]):
                    return False
        return True


class Apart(Paper):
    """A history whose last step makes the floors of two books unlike."""

    WORD = "apart"

    def __init__(self, book, other, start, history):
        super().__init__(book, start)
        self.other = copied(other)
        self._history = listed(history)

    def history(self):
        """Return the history as it was passed, a list if it was a list or tuple."""
        return copied(self._history)

    def told(self):
        """Return the word."""
        return self.WORD

    def holds(self):
        """Tell whether both books play the history, with one floor ahead of its last step and unlike ones behind it."""
        if not is_beside(self.other, self.book) or not is_room(self.start, self.book.faces):
            return False
        if not isinstance(self._history, list) or self._history == []:
            return False
        before = [cuts_behind(book, self.start, self._history[:-1]) for book in (self.book, self.other)]
        behind = [cuts_behind(book, self.start, self._history) for book in (self.book, self.other)]
        if behind[0] is None or behind[1] is None:
            return False
        return before[0] == before[1] and behind[0] != behind[1]


def compare(book, other, start):
    """Return an Alike that holds, or an Apart that holds with as few steps as possible."""
    check_room(book, start)
    if not isinstance(other, Book) or book.faces != other.faces:
        raise OtherFaces()
    if book.cutters != other.cutters:
        raise OtherCutters()
    origins = origins_of(book, start)
    # Rooms that need fewer cuts come first, and both books come to the first unlike one in the same way.
    for room in origins:
        cutter = unlike_cutter(book, other, room)
        if cutter is not None:
            steps, address = steps_along(turns_to(origins, room), "")
            return Apart(book, other, start, steps + [(address, cutter)])
    return Alike(book, other, start, reached(book, start))
