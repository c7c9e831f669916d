"""Strands: shared trees of cuts that stand for one row, however long it is."""

from fourwalls.errors import InvalidNumber, InvalidPaper, TooMany, UnknownRoom
from fourwalls.faces import is_letter, is_number, is_room, parts_of
from fourwalls.rooms import grown
from fourwalls.values import copied, listed, same
from fourwalls.views import is_view, rows_behind, rule

_MOST_ROOMS = 400
_MOST_CUTS = 400


def is_outside(item):
    """Tell whether an item of a line says that the part is not in the row."""
    return is_letter(item, "-")


def is_inside(rooms, part, item):
    """Tell whether an item says how a part is in the row, where these are the rooms of the lines."""
    return item is None or is_number(item, 0, len(rooms) - 1) and rooms[item] == part


def items_hold(rooms, parts, how, items):
    """Tell whether the items of a line belong to the parts by a rule."""
    inside = [is_inside(rooms, part, item) for part, item in zip(parts, items)]
    first = inside[0] and is_outside(items[1])
    second = is_outside(items[0]) and inside[1]
    options = {"both": inside[0] and inside[1], "first": first, "second": second, "either": first or second}
    return options[how]


def line_holds(book, view, rooms, line):
    """Tell whether a value is a line of a strand behind lines with these rooms."""
    if not isinstance(line, tuple) or len(line) != 4:
        return False
    room, cutter, first, second = line
    if not is_room(room, book.faces) or not is_letter(cutter, book.cutters):
        return False
    cut = book.cut(room, cutter)
    return cut != "" and items_hold(rooms, parts_of(room, cut), rule(view, cut), (first, second))


def lines_hold(book, view, lines):
    """Tell whether a value is a list of lines of a strand, for a view that is one."""
    if not isinstance(lines, list):
        return False
    rooms = []
    for line in lines:
        if not line_holds(book, view, rooms, line):
            return False
        rooms.append(line[0])
    return True


def row_parts(book, line):
    """Return the pairs (part, item) of the parts of a line that are in the row, in order."""
    room, cutter, first, second = line
    pairs = zip(book.parts(room, cutter), (first, second))
    return [(part, item) for part, item in pairs if item != "-"]


def folded(book, lines, leaf, over):
    """Return a value for the row of each line, made of those of its parts.

    A part that stands whole has the value leaf(part); over(values) makes one of those of the parts in the row.
    """
    values = []
    for line in lines:
        pairs = row_parts(book, line)
        values.append(over([leaf(part) if item is None else values[item] for part, item in pairs]))
    return values


def needed(lines, items):
    """Return the lines that rows with these items use, and a dict of all their new items by the old ones."""
    used = {item: True for item in items}
    for at in range(len(lines) - 1, -1, -1):
        if at in used:
            used[lines[at][2]] = True
            used[lines[at][3]] = True
    places = {None: None, "-": "-"}
    kept = []
    for at, (room, cutter, first, second) in enumerate(lines):
        if at in used:
            places[at] = len(kept)
            kept.append((room, cutter, places[first], places[second]))
    return kept, places


def chained(ends):
    """Return the ends of a row from each state, of those of its parts."""
    if len(ends) == 1:
        return ends[0]
    return [ends[1][state] for state in ends[0]]


def spread(book, start, lines, top):
    """Return the pairs (address, room) of a row, and the plain history of its cuts."""
    row = []
    steps = []
    waiting = [("", start, top)]
    while waiting:
        address, room, item = waiting.pop()
        if item is None:
            row.append((address, room))
            continue
        cutter = lines[item][1]
        steps.append((address, cutter))
        parts = book.parts(room, cutter)
        # The first part is put in last, for it is taken out first.
        for index in (1, 0):
            below = lines[item][2 + index]
            if below != "-":
                waiting.append((address + str(index), parts[index], below))
    return row, steps


class Strand:
    """A list of lines and a top, which stand for one row of a view; a strand never changes."""

    def __init__(self, book, start, view, lines, top):
        self.book = book
        self.start = copied(start)
        self.view = copied(view)
        self._lines = listed(lines)
        self.top = copied(top)

    def lines(self):
        """Return the lines as they were passed, a list if they were a list or tuple."""
        return copied(self._lines)

    def holds(self):
        """Tell whether this is a strand of its book, start and view."""
        if not is_room(self.start, self.book.faces) or not is_view(self.view):
            return False
        if not lines_hold(self.book, self.view, self._lines):
            return False
        return is_inside([line[0] for line in self._lines], self.start, self.top)

    def cuts(self):
        """Return the number of its cuts."""
        return self._folded(lambda part: 0, lambda counts: 1 + sum(counts))

    def many(self):
        """Return the number of rooms of its row."""
        return self._folded(lambda part: 1, lambda counts: sum(counts))

    def weight(self, weights):
        """Return the weight of its row."""
        return self._folded(lambda part: weights(part), lambda sums: sum(sums))

    def end(self, machine):
        """Return the state in which a machine ends that reads the text of its row."""
        states = list(range(machine.size))
        return self._folded(lambda part: [machine(part, state) for state in states], chained)[0]

    def room(self, at):
        """Return the room of its row with an index."""
        if not is_number(at, 0, self.many() - 1):
            raise UnknownRoom(at)
        counts = folded(self.book, self._lines, lambda part: 1, lambda values: sum(values))
        left = at
        room = self.start
        item = self.top
        while item is not None:
            pairs = row_parts(self.book, self._lines[item])
            room, item = pairs[0]
            size = 1 if item is None else counts[item]
            if left >= size:
                left -= size
                room, item = pairs[1]
        return room

    def text(self):
        """Return the text of its row."""
        return "".join([room for _, room in self._spread()[0]])

    def addresses(self):
        """Return the list of the addresses of the rooms of its row behind its history."""
        return [address for address, _ in self._spread()[0]]

    def history(self):
        """Return the plain history of its cuts."""
        return self._spread()[1]

    def _folded(self, leaf, over):
        """Return the value of the whole row, as in folded."""
        if not self.holds():
            raise InvalidPaper()
        if self.top is None:
            return leaf(self.start)
        return folded(self.book, self._lines, leaf, over)[self.top]

    def _spread(self):
        """Return the row and the plain history, as in spread, of a row that is short enough."""
        if self.many() > _MOST_ROOMS or self.cuts() > _MOST_CUTS:
            raise TooMany(_MOST_ROOMS)
        return spread(self.book, self.start, self._lines, self.top)

    def __eq__(self, other):
        if not isinstance(other, Strand) or self.book != other.book:
            return False
        if not same(self.start, other.start) or not same(self.view, other.view):
            return False
        return same(self._lines, other._lines) and same(self.top, other.top)

    def __repr__(self):
        return f"Strand({len(self._lines) if isinstance(self._lines, list) else 0} lines)"


def strand_of(book, start, history, view, *, walk=0):
    """Return a strand for the row with an index among those of a view behind a history."""
    rows = rows_behind(book, start, history, view)
    if not is_number(walk, 0, len(rows) - 1):
        raise InvalidNumber(walk)
    _, cuts = grown(book, start, history)
    items = {address: None for address in rows[walk]}
    lines = []
    # Descending, the cuts in the parts of a cut come ahead of it.
    for address in sorted(list(cuts), reverse=True):
        first = items.get(address + "0", "-")
        second = items.get(address + "1", "-")
        if first != "-" or second != "-":
            items[address] = len(lines)
            room, cutter = cuts[address]
            lines.append((room, cutter, first, second))
    return Strand(book, start, view, lines, items[""])
