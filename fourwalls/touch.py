"""Which two rooms can ever meet across a stretch, and the steps that show it."""

from fourwalls.bits import indexes_in
from fourwalls.errors import InvalidSign
from fourwalls.faces import is_letter, is_room, parts_of
from fourwalls.papers import Paper
from fourwalls.plans import laid, meets
from fourwalls.rooms import check_room, origins_of, reached, steps_along, turns_to
from fourwalls.values import copied, listed
from fourwalls.views import NAMED, splits

# The views of the first and of the second part along a stretch, by its sign.
_VIEWS = {"|": ("E", "W"), "-": ("S", "N")}


def is_sign(value):
    """Tell whether a value is a sign."""
    return is_letter(value, "|-")


def stands(floor, address):
    """Tell whether a value is the address of a room of a laid floor."""
    return isinstance(address, str) and address in floor


def parted(book, rooms, sign):
    """Return the tuples (room, cutter, first part, second part) of the cuts of rooms that have a sign."""
    found = []
    for room in rooms:
        for cutter in book.cutters:
            cut = book.cut(room, cutter)
            if cut[:1] == sign:
                first, second = parts_of(room, cut)
                found.append((room, cutter, first, second))
    return found


def below_in(book, rooms, view):
    """Return for each room the list of the parts that the rules of its cuts name."""
    found = {}
    for room in rooms:
        found[room] = [parts[index] for _, how, parts in splits(book, view, room) for index in NAMED[how]]
    return found


def members_in(book, rooms, view):
    """Return for each room, as bits, the indexes of the rooms that stand in a row of it; they all are in the list."""
    below = below_in(book, rooms, view)
    found = {room: 1 << at for at, room in enumerate(rooms)}
    changed = True
    while changed:
        changed = False
        for room in rooms:
            bits = found[room]
            for part in below[room]:
                bits = bits | found[part]
            if bits != found[room]:
                found[room] = bits
                changed = True
    return found


def touching_by(book, rooms, sign):
    """Return the ascending list of the triples (sign, room, room) of the rooms that can meet by a sign."""
    one, other = [members_in(book, rooms, view) for view in _VIEWS[sign]]
    beyond = {}
    for _, _, first, second in parted(book, rooms, sign):
        beyond[first] = beyond.get(first, 0) | other[second]
    partners = [0 for _ in rooms]
    for first in beyond:
        for at in indexes_in(one[first]):
            partners[at] = partners[at] | beyond[first]
    return [(sign, rooms[at], rooms[end]) for at, bits in enumerate(partners) for end in indexes_in(bits)]


def ways_into(book, rooms, view, goal):
    """Return for each room in whose rows the goal stands the turns (room, cutter, index) by which it comes there.

    They are as few as possible; it is a dict by rooms.
    """
    cuts = {room: splits(book, view, room) for room in rooms}
    ways = {goal: []}
    waiting = True
    while waiting:
        found = {}
        for room in rooms:
            if room not in ways:
                ends = [(cutter, index, parts[index]) for cutter, how, parts in cuts[room] for index in NAMED[how]]
                turns = [[(room, cutter, index)] + ways[part] for cutter, index, part in ends if part in ways]
                if turns:
                    found[room] = turns[0]
        ways.update(found)
        waiting = len(found) > 0
    return ways


def shortest(book, start, sign, first, second):
    """Return the turns of as few cuts as possible by which two rooms come to meet, or None if they cannot.

    It is a tuple: the turns to a room, its cutter, and the turns in its first and in its second part.
    """
    origins = origins_of(book, start)
    rooms = list(origins)
    views = _VIEWS[sign]
    ones = ways_into(book, rooms, views[0], first)
    others = ways_into(book, rooms, views[1], second)
    best = None
    for room, cutter, one, other in parted(book, rooms, sign):
        if one in ones and other in others:
            turns = turns_to(origins, room)
            many = len(turns) + len(ones[one]) + len(others[other])
            if best is None or many < best[0]:
                best = (many, turns, cutter, ones[one], others[other])
    return None if best is None else best[1:]


def in_middle(steps):
    """Return steps placed in the middle of their rooms."""
    return [(address, cutter, 1, 2) for address, cutter in steps]


def far_out(turns, steps, many):
    """Return the steps of turns, placed such that the part to which each one leads has nearly all of its room."""
    return [step + ((1, many) if turn[2] == 1 else (many - 1, many)) for turn, step in zip(turns, steps)]


def found_touch(book, start, sign, turns, cutter, ones, others):
    """Return the Touch of turns as in shortest."""
    way, address = steps_along(turns, "")
    first, one = steps_along(ones, address + "0")
    second, other = steps_along(others, address + "1")
    # Each of both rooms has three quarters of the stretch at least, so they meet.
    many = 4 * (len(first) + len(second) + 1)
    steps = in_middle(way + [(address, cutter)]) + far_out(ones, first, many) + far_out(others, second, many)
    return Touch(book, start, sign, steps, one, other)


class Touch(Paper):
    """Placed steps, and the addresses of two rooms that meet by a sign behind them."""

    WORD = "touch"

    def __init__(self, book, start, sign, steps, one, other):
        super().__init__(book, start)
        self.sign = copied(sign)
        self._steps = listed(steps)
        self.one = copied(one)
        self.other = copied(other)

    def steps(self):
        """Return the steps as they were passed, a list if they were a list or tuple."""
        return copied(self._steps)

    def rooms(self):
        """Return the list of both rooms, or None unless the paper holds."""
        if not is_room(self.start, self.book.faces) or not is_sign(self.sign):
            return None
        floor, wrong = laid(self.book, self.start, self._steps)
        if wrong is not None or not stands(floor, self.one) or not stands(floor, self.other):
            return None
        first, one = floor[self.one]
        second, other = floor[self.other]
        return [first, second] if meets(self.sign, one, other) else None

    def told(self):
        """Return the word, both rooms and the sign, or the word alone unless the paper holds."""
        rooms = self.rooms()
        return self.WORD if rooms is None else f"{self.WORD} {rooms[0]} {self.sign} {rooms[1]}"

    def holds(self):
        """Tell whether rooms with these addresses stand behind the steps, and meet by the sign."""
        return self.rooms() is not None


def touching(book, start):
    """Return the ascending list of the triples (sign, room, room) of the rooms that can meet."""
    rooms = reached(book, start)
    return touching_by(book, rooms, "-") + touching_by(book, rooms, "|")


def touch_of(book, start, sign, first, second):
    """Return a Touch of two rooms with as few steps as possible, or None if they cannot meet by the sign."""
    check_room(book, start)
    if not is_sign(sign):
        raise InvalidSign(sign)
    check_room(book, first)
    check_room(book, second)
    found = shortest(book, start, sign, first, second)
    return None if found is None else found_touch(book, start, sign, *found)
