"""Whether a machine keeps every row of a view: the table that shows it, or a strand whose row it does not keep."""

from fourwalls.errors import OtherFaces
from fourwalls.least import least_broken
from fourwalls.links import all_links, covers_links, keeps_all, pairs_in, told_links, whole_links
from fourwalls.machines import Machine
from fourwalls.papers import Paper, entries_of, is_closed, is_seen, is_strand_of
from fourwalls.rooms import check_room
from fourwalls.strands import Strand
from fourwalls.values import copied, listed
from fourwalls.views import check_view


def has_faces(machine, book):
    """Tell whether a value is a machine with the faces of a book."""
    return isinstance(machine, Machine) and machine.faces == book.faces


def check_question(book, start, view, machine):
    """Raise the errors of a question whether a machine keeps the rows of a start."""
    check_room(book, start)
    check_view(view)
    if not has_faces(machine, book):
        raise OtherFaces()


def table_of(links):
    """Return the table that tells links, a dict by rooms, ascending."""
    return [(room, pairs_in(links[room])) for room in sorted(list(links))]


class Safe(Paper):
    """A table of links of rooms, closed under their cuts, which shows that a book is safe."""

    WORD = "safe"

    def __init__(self, book, start, view, machine, table):
        super().__init__(book, start)
        self.view = copied(view)
        self.machine = copied(machine)
        self._table = listed(table)

    def table(self):
        """Return the table as it was passed, a list if it was a list or tuple."""
        return copied(self._table)

    def told(self):
        """Return the word."""
        return self.WORD

    def holds(self):
        """Tell whether the table is closed and leads the start to no bad state."""
        if not is_seen(self.book, self.start, self.view) or not has_faces(self.machine, self.book):
            return False
        size = self.machine.size
        links = entries_of(self.book, self._table, lambda pairs: told_links(pairs, size))
        if links is None or self.start not in links or not keeps_all(self.machine, links[self.start]):
            return False
        # A room that stands whole is covered like a cut one with a single part.
        whole = all([covers_links(links[room], "first", [whole_links(self.machine, room)]) for room in links])
        return whole and is_closed(self.book, self.view, links, covers_links)


class Broken(Paper):
    """A strand whose row a machine does not keep."""

    WORD = "broken"

    def __init__(self, book, start, view, machine, strand):
        super().__init__(book, start)
        self.view = copied(view)
        self.machine = copied(machine)
        self.strand = copied(strand)

    def told(self):
        """Return the word and the number of cuts, or the word alone unless the strand is one that holds."""
        if not isinstance(self.strand, Strand) or not self.strand.holds():
            return self.WORD
        return f"{self.WORD} by {self.strand.cuts()} cuts"

    def holds(self):
        """Tell whether the strand holds, belongs to this question, and leads the machine to a bad state."""
        if not has_faces(self.machine, self.book):
            return False
        if not is_strand_of(self.strand, self.book, self.start, self.view):
            return False
        return self.machine.is_bad(self.strand.end(self.machine))


def links_of(book, start, view, machine):
    """Return the pairs of each member and the ascending list of its links, ascending by rooms."""
    check_question(book, start, view, machine)
    return table_of(all_links(book, start, view, machine))


def verdict(book, start, view, machine):
    """Return a Safe that holds, or a Broken that holds with as few cuts as possible."""
    check_question(book, start, view, machine)
    links = all_links(book, start, view, machine)
    if keeps_all(machine, links[start]):
        return Safe(book, start, view, machine, table_of(links))
    return Broken(book, start, view, machine, least_broken(book, start, view, machine))
