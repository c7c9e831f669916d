"""Which lines of a book to mute so that it is safe."""

from fourwalls.bits import indexes_in
from fourwalls.kept import check_question
from fourwalls.links import all_links, keeps_all
from fourwalls.views import members


def is_safe(book, start, view, machine):
    """Tell whether a book is safe for a start, a view and a machine."""
    return keeps_all(machine, all_links(book, start, view, machine)[start])


def lines_in_use(book, start, view):
    """Return the ascending list of the indexes of the lines that cut rooms which stand in rows of a view."""
    rooms = members(book, start, view)
    used = {book.line_at(room, cutter): True for room in rooms for cutter in book.cutters}
    return [at for at, line in enumerate(book.lines()) if at in used and line[5] != ""]


def choices_of(indexes):
    """Return all tuples of some of these ascending indexes, shorter ones first, equally long ones ascending."""
    choices = [tuple([indexes[at] for at in indexes_in(bits)]) for bits in range(1 << len(indexes))]
    return sorted(choices, key=lambda lines: (len(lines), lines))


def has_part(found, lines):
    """Tell whether one of the tuples that were found has no index but some of these."""
    return any([all([at in lines for at in mute]) for mute in found])


def least_mutes(book, start, view, machine):
    """Return the list of the least tuples of lines such that the book is safe with these lines muted."""
    check_question(book, start, view, machine)
    # The start alone is a row of every book.
    if start not in machine:
        return []
    found = []
    # The lines that make no row are in no least tuple.
    for lines in choices_of(lines_in_use(book, start, view)):
        # A book with more muted lines has no more rows, so it is safe behind a smaller tuple that was found.
        if not has_part(found, lines) and is_safe(book.muted(*lines), start, view, machine):
            found.append(lines)
    return found
