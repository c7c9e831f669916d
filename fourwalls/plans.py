"""Placed histories: where the rooms of a floor lie, which of them meet, and which a walk goes through.

A laid floor is kept as a dict by addresses with the pairs (room, box) of the rooms that stand; a box is a tuple
(west, north, east, south) of ratios.
"""

from fourwalls.errors import InvalidRatio, InvalidStep, InvalidView
from fourwalls.faces import is_integer, is_letter
from fourwalls.ratios import Ratio
from fourwalls.rooms import check_room

# For each sign the indexes in a box: the far side of the first room and the near side of the second one, which
# lie on the stretch, and the two ends of a room along it.
_ACROSS = {"|": (2, 0, 1, 3), "-": (3, 1, 0, 2)}

# For each walk the indexes in a box of the sides between which the walk passes.
_SIDES = {"A": (1, 3), "D": (0, 2)}


def is_place(top, bottom):
    """Tell whether two values are the numbers of a place in a room: 0 < top < bottom."""
    return is_integer(top) and is_integer(bottom) and 0 < top < bottom


def is_placed_step(value, floor, cutters):
    """Tell whether a value is a placed step to one of the rooms of a laid floor."""
    if not isinstance(value, tuple) or len(value) != 4:
        return False
    address, cutter, top, bottom = value
    stands = isinstance(address, str) and address in floor
    return stands and is_letter(cutter, cutters) and is_place(top, bottom)


def boxes_at(box, sign, place):
    """Return both boxes into which a cut with this sign and place parts a box."""
    west, north, east, south = box
    if sign == "|":
        at = west + (east - west) * place
        return (west, north, at, south), (at, north, east, south)
    at = north + (south - north) * place
    return (west, north, east, at), (west, at, east, south)


def lay(book, floor, step):
    """Let the cutter of a placed step come to its room; change the floor."""
    address, cutter, top, bottom = step
    room, box = floor[address]
    parts = book.parts(room, cutter)
    if len(parts) == 2:
        boxes = boxes_at(box, book.cut(room, cutter)[0], Ratio(top, bottom))
        del floor[address]
        floor[address + "0"] = (parts[0], boxes[0])
        floor[address + "1"] = (parts[1], boxes[1])


def laid(book, start, steps):
    """Return the laid floor behind a placed history, and the index of its first wrong item.

    The index is None if there is no wrong item, and -1 if the steps are no list.
    """
    floor = {"": (start, (Ratio(0), Ratio(0), Ratio(1), Ratio(1)))}
    if not isinstance(steps, (list, tuple)):
        return floor, -1
    for at, step in enumerate(steps):
        if not is_placed_step(step, floor, book.cutters):
            return floor, at
        lay(book, floor, step)
    return floor, None


def floor_behind(book, start, steps):
    """Return the laid floor behind a placed history; raise the errors of a start and of steps."""
    check_room(book, start)
    floor, wrong = laid(book, start, steps)
    if wrong is not None:
        raise InvalidStep(wrong)
    return floor


def boxes_in(floor):
    """Return the tuples (address, room, west, north, east, south) of a laid floor, ascending by addresses."""
    return [(address, floor[address][0]) + floor[address][1] for address in sorted(list(floor))]


def meets(sign, one, other):
    """Tell whether the first of two boxes meets the second one by a sign."""
    far, near, low, high = _ACROSS[sign]
    # Boxes that end where the other one begins have at most a corner in common.
    return one[far] == other[near] and one[low].is_below(other[high]) and other[low].is_below(one[high])


def place_of(ratio):
    """Return a ratio as a pair, by which a dict can be asked."""
    return ratio.top, ratio.bottom


def meeting_by(floor, sign):
    """Return the triples of the rooms of a laid floor that meet by one sign."""
    far, near, _, _ = _ACROSS[sign]
    begin = {}
    for address in floor:
        begin.setdefault(place_of(floor[address][1][near]), []).append(address)
    found = []
    for address in floor:
        box = floor[address][1]
        for other in begin.get(place_of(box[far]), []):
            if meets(sign, box, floor[other][1]):
                found.append((sign, address, other))
    return found


def meeting_in(floor):
    """Return the ascending list of the triples (sign, address, address) of the rooms that meet in a laid floor."""
    return sorted(meeting_by(floor, "-") + meeting_by(floor, "|"))


def check_walk(view):
    """Raise InvalidView unless a value is the view of a walk."""
    if not is_letter(view, "AD"):
        raise InvalidView(view)


def walk_in(floor, view, at):
    """Return the addresses of the rooms of a laid floor that a walk goes through, in order."""
    if not isinstance(at, Ratio) or not Ratio(0).is_below(at) or not at.is_below(Ratio(1)):
        raise InvalidRatio(at)
    low, high = _SIDES[view]
    row = []
    # The parts of each cut lie in order, and so do the rooms by their addresses.
    for address in sorted(list(floor)):
        box = floor[address][1]
        if box[low] == at:
            raise InvalidRatio(at)
        if box[low].is_below(at) and at.is_below(box[high]):
            row.append(address)
    return row


def placed(book, start, steps):
    """Return the tuples (address, room, west, north, east, south) behind a placed history."""
    return boxes_in(floor_behind(book, start, steps))


def meeting(book, start, steps):
    """Return the ascending list of the triples (sign, address, address) of the rooms that meet."""
    return meeting_in(floor_behind(book, start, steps))


def walk_at(book, start, steps, view, at):
    """Return the addresses of the rooms that a walk goes through at a ratio, in order."""
    floor = floor_behind(book, start, steps)
    check_walk(view)
    return walk_in(floor, view, at)
