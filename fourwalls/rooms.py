"""Rooms: histories of a start, and the rooms that can come."""

from fourwalls.errors import InvalidRoom, InvalidStep
from fourwalls.faces import is_letter, is_room


def check_room(book, room):
    """Raise InvalidRoom unless a value is a room of the book."""
    if not is_room(room, book.faces):
        raise InvalidRoom(room)


def is_step(value, standing, cutters):
    """Tell whether a value is a step to one of the standing rooms, a dict by their addresses."""
    if not isinstance(value, tuple) or len(value) != 2:
        return False
    address, cutter = value
    return isinstance(address, str) and address in standing and is_letter(cutter, cutters)


def grown(book, start, history):
    """Return the standing rooms behind a history, and the pairs (room, cutter) of its cuts.

    Both are dicts by addresses.
    """
    check_room(book, start)
    if not isinstance(history, (list, tuple)):
        raise InvalidStep(-1)
    standing = {"": start}
    cuts = {}
    for at, step in enumerate(history):
        if not is_step(step, standing, book.cutters):
            raise InvalidStep(at)
        address, cutter = step
        room = standing[address]
        parts = book.parts(room, cutter)
        if len(parts) == 2:
            cuts[address] = (room, cutter)
            del standing[address]
            standing[address + "0"] = parts[0]
            standing[address + "1"] = parts[1]
    return standing, cuts


def play(book, start, history):
    """Return the pairs (address, room) of the rooms that stand behind a history, ascending."""
    standing, _ = grown(book, start, history)
    return sorted(list(standing.items()))


def plain(book, start, history):
    """Return the plain history of the tree of a history."""
    _, cuts = grown(book, start, history)
    return [(address, cuts[address][1]) for address in sorted(list(cuts))]


def origins_of(book, start):
    """Return for each room that can come the triple (room, cutter, index) of which it is a part.

    It is a dict by rooms, in which the start has None. Rooms that need fewer cuts come first, and each
    triple is one with as few cuts as possible.
    """
    origins = {start: None}
    waiting = [start]
    while waiting:
        found = []
        for room in waiting:
            for cutter in book.cutters:
                for index, part in enumerate(book.parts(room, cutter)):
                    if part not in origins:
                        origins[part] = (room, cutter, index)
                        found.append(part)
        waiting = found
    return origins


def reached(book, start):
    """Return the ascending list of the rooms that can come."""
    check_room(book, start)
    return sorted(list(origins_of(book, start)))


def turns_to(origins, room):
    """Return the turns (room, cutter, index) that lead from the start to a room, of what origins_of gives."""
    turns = []
    origin = origins[room]
    while origin is not None:
        turns.append(origin)
        origin = origins[origin[0]]
    return turns[::-1]


def steps_along(turns, address):
    """Return the steps of turns in a room with an address, and the address to which they lead."""
    steps = []
    for _, cutter, index in turns:
        steps.append((address, cutter))
        address = address + str(index)
    return steps, address


def way_to(book, start, room):
    """Return a history of as few steps as possible behind which a room stands, or None."""
    check_room(book, start)
    check_room(book, room)
    origins = origins_of(book, start)
    return steps_along(turns_to(origins, room), "")[0] if room in origins else None
