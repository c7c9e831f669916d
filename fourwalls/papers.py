"""Papers: answers that can be checked without a search, and what the tables of some of them have in common."""

from fourwalls.faces import is_room
from fourwalls.strands import Strand
from fourwalls.values import copied, same
from fourwalls.views import NAMED, is_view, splits


def entries_of(book, table, worth_of):
    """Return a dict by rooms of what a table tells of them, or None if it is no table.

    A table is a list of pairs of a room, each one once, and a value; worth_of(value) is what the value tells, or
    None if it has not the right form.
    """
    if not isinstance(table, list):
        return None
    entries = {}
    for entry in table:
        if not isinstance(entry, tuple) or len(entry) != 2:
            return None
        room, value = entry
        if not is_room(room, book.faces) or room in entries:
            return None
        worth = worth_of(value)
        if worth is None:
            return None
        entries[room] = worth
    return entries


def is_closed(book, view, entries, covers):
    """Tell whether each room with an entry is right for all of its cuts.

    The parts that the rule of a cut names have entries, and covers(worth, rule, worths) holds for the entry of
    the room, the rule, and the list of the entries of these parts.
    """
    for room in entries:
        for _, how, parts in splits(book, view, room):
            named = [parts[index] for index in NAMED[how]]
            if not all([part in entries for part in named]):
                return False
            if not covers(entries[room], how, [entries[part] for part in named]):
                return False
    return True


def is_seen(book, start, view):
    """Tell whether values are a room of the book and a view."""
    return is_room(start, book.faces) and is_view(view)


def is_strand_of(value, book, start, view):
    """Tell whether a value is a strand that holds and has this book, start and view."""
    if not isinstance(value, Strand) or value.book != book:
        return False
    return same(value.start, start) and same(value.view, view) and value.holds()


class Paper:
    """An answer about a book and a start; a paper never changes."""

    WORD = "open"

    def __init__(self, book, start):
        self.book = book
        self.start = copied(start)

    def told(self):
        """Return what the paper says, in a few words."""
        return self.WORD

    def holds(self):
        """Tell whether what the paper says is shown by it."""
        return False

    def __repr__(self):
        return f"Paper({self.WORD})"
