"""The greatest weight of the rows of a view, and the papers that show it, or that there is none."""

from fourwalls.faces import is_integer, is_letter, is_number, is_room, parts_of
from fourwalls.heavy import Heaviest
from fourwalls.papers import Paper, entries_of, is_closed, is_seen, is_strand_of
from fourwalls.rooms import check_room
from fourwalls.strands import Strand, folded, is_inside, is_outside, lines_hold
from fourwalls.values import copied, listed
from fourwalls.views import NAMED, check_view, rule
from fourwalls.weights import Weights, check_weights


def has_faces(weights, book):
    """Tell whether a value is weights with the faces of a book."""
    return isinstance(weights, Weights) and weights.faces == book.faces


def covers_heights(height, how, heights):
    """Tell whether a height is enough for a room whose parts in a row by this rule have these heights."""
    return height >= (sum(heights) if how == "both" else max(heights))


def turn_holds(book, view, rooms, turn):
    """Tell whether a value is a turn beside lines with these rooms, for a view that is one."""
    if not isinstance(turn, tuple) or len(turn) != 4:
        return False
    room, cutter, index, item = turn
    if not is_room(room, book.faces) or not is_letter(cutter, book.cutters) or not is_number(index, 0, 1):
        return False
    cut = book.cut(room, cutter)
    if cut == "" or index not in NAMED[rule(view, cut)]:
        return False
    if rule(view, cut) != "both":
        return is_outside(item)
    return is_inside(rooms, parts_of(room, cut)[1 - index], item)


def turns_hold(book, view, lines, turns):
    """Tell whether a value is a list of turns beside right lines."""
    if not isinstance(turns, list):
        return False
    rooms = [line[0] for line in lines]
    return all([turn_holds(book, view, rooms, turn) for turn in turns])


def leads_round(book, start, way, ring):
    """Tell whether right turns lead from a start along the way to the ring, and round it."""
    if ring == []:
        return False
    # Behind the last turn of the ring comes its first one again.
    turns = way + ring + ring[:1]
    leads = [book.parts(room, cutter)[index] for room, cutter, index, _ in turns]
    return turns[0][0] == start and all([lead == turn[0] for lead, turn in zip(leads, turns[1:])])


def gain_round(book, weights, lines, ring):
    """Return the gain of a ring of right turns."""
    values = folded(book, lines, lambda part: weights(part), lambda sums: sum(sums))
    gain = 0
    for room, cutter, index, item in ring:
        if item is None:
            gain += weights(book.parts(room, cutter)[1 - index])
        elif item != "-":
            gain += values[item]
    return gain


class Peak(Paper):
    """Heights of rooms, closed under their cuts, and a strand whose row has the height of the start."""

    WORD = "peak"

    def __init__(self, book, start, view, weights, heights, strand):
        super().__init__(book, start)
        self.view = copied(view)
        self.weights = copied(weights)
        self._heights = listed(heights)
        self.strand = copied(strand)

    def heights(self):
        """Return the heights as they were passed, a list if they were a list or tuple."""
        return copied(self._heights)

    def number(self):
        """Return the greatest weight of a row, or None unless the paper holds."""
        return self.strand.weight(self.weights) if self.holds() else None

    def told(self):
        """Return the word and the greatest weight, or the word alone unless the paper holds."""
        number = self.number()
        return self.WORD if number is None else f"{self.WORD} {number}"

    def holds(self):
        """Tell whether no row can be heavier than the start is high, and that of the strand is as heavy."""
        if not is_seen(self.book, self.start, self.view) or not has_faces(self.weights, self.book):
            return False
        heights = entries_of(self.book, self._heights, lambda height: height if is_integer(height) else None)
        if heights is None or self.start not in heights:
            return False
        if not all([heights[room] >= self.weights(room) for room in heights]):
            return False
        if not is_closed(self.book, self.view, heights, covers_heights):
            return False
        if not is_strand_of(self.strand, self.book, self.start, self.view):
            return False
        return self.strand.weight(self.weights) == heights[self.start]


class Rise(Paper):
    """A ring of turns to which a way leads, and which makes rows heavier each time."""

    WORD = "rise"

    def __init__(self, book, start, view, weights, lines, way, ring):
        super().__init__(book, start)
        self.view = copied(view)
        self.weights = copied(weights)
        self._lines = listed(lines)
        self._way = listed(way)
        self._ring = listed(ring)

    def lines(self):
        """Return the lines as they were passed, a list if they were a list or tuple."""
        return copied(self._lines)

    def way(self):
        """Return the way as it was passed, a list if it was a list or tuple."""
        return copied(self._way)

    def ring(self):
        """Return the ring as it was passed, a list if it was a list or tuple."""
        return copied(self._ring)

    def gain(self):
        """Return the gain of the ring, or None unless the paper holds."""
        if not self._is_round():
            return None
        gain = gain_round(self.book, self.weights, self._lines, self._ring)
        return gain if gain > 0 else None

    def told(self):
        """Return the word and the gain, or the word alone unless the paper holds."""
        gain = self.gain()
        return self.WORD if gain is None else f"{self.WORD} by {gain}"

    def holds(self):
        """Tell whether the turns lead round from the start, and the ring gains."""
        return self.gain() is not None

    def _is_round(self):
        """Tell whether the lines and turns are right and lead round from the start."""
        if not is_seen(self.book, self.start, self.view) or not has_faces(self.weights, self.book):
            return False
        if not lines_hold(self.book, self.view, self._lines):
            return False
        if not all([turns_hold(self.book, self.view, self._lines, turns) for turns in (self._way, self._ring)]):
            return False
        return leads_round(self.book, self.start, self._way, self._ring)


def greatest(book, start, view, weights):
    """Return a Peak that holds, with the greatest weights of all members, or a Rise that holds."""
    check_room(book, start)
    check_view(view)
    check_weights(weights, book.faces)
    heaviest = Heaviest(book, start, view, weights)
    while heaviest.grow():
        ring = heaviest.ring()
        if ring:
            lines, way, turns = heaviest.rise(ring)
            return Rise(book, start, view, weights, lines, way, turns)
    lines, top = heaviest.row()
    heights = [(room, heaviest.best[room]) for room in sorted(list(heaviest.best))]
    return Peak(book, start, view, weights, heights, Strand(book, start, view, lines, top))
