"""Values and calls that several tests use."""

import itertools
from fractions import Fraction

from fourwalls.books import Book

# Every character that a string may have.
CHARACTERS = [chr(code) for code in range(ord(" "), ord("~") + 1)] + ["\n"]

LINES = (
    ("a", ".", ".", ".", "A", "|ab"),
    (".", ".", ".", ".", "A", "|ba"),
    (".", ".", ".", ".", "B", "-ba"),
)

# The book of the examples: one cutter cuts upright, the other one level.
CROSS = Book("ab", "AB", (".", ".", ".", ".", "A", "|ab"), (".", ".", ".", ".", "B", "-ba"))


def any_values():
    """Return values of every kind that a caller may pass for a wrong argument."""
    return [
        -1, 0, 1, 2, 999999999999999999, -999999999999999999, True, False, None,
        "", " ", "a", "A", ".", "-", "|", "aaaa", "no\nrow", "~" * 4000,
        [], (), [[]], ((),), [1], (1,), ["a"], ("a",), [True], (None,), ["aaaa", "A"], ("", "A"), ["", "A"],
        ("", ["A"]), ([""], "A"), (("",), "A"), (["a", ("b", [1, (True, [None])])],), [[[[[[1]]]]]],
        Book("ab", "A"), (Book("ab", "A"),), [Book("ab", "A"), 1],
    ]


def raised(call, *given, **named):
    """Return the error that a call raises; fail if it raises none."""
    try:
        call(*given, **named)
    except Exception as error:
        return error
    raise AssertionError("nothing was raised")


def told(error):
    """Return the name of an error's class and its own attributes without the code."""
    return error.__class__.__name__, {name: value for name, value in vars(error).items() if name != "code"}


# A book with three faces whose rooms are cut in unlike ways, or not at all.
RICH = Book(
    "abc", "ABC",
    ("c", ".", ".", ".", "A", ""), (".", "ab", ".", ".", "A", "|cb"), ("ab", ".", ".", "a", "B", "-ac"),
    (".", ".", "c", ".", "BC", "|ba"), (".", ".", ".", "bc", "C", "-bb"),
)


def all_histories(book, start, cuts):
    """Return the plain histories with this number of cuts, one for each tree."""
    found = {(): {"": start}}
    for _ in range(cuts):
        longer = {}
        for steps, standing in found.items():
            for address, room in standing.items():
                for cutter in book.cutters:
                    parts = book.parts(room, cutter)
                    if len(parts) == 2:
                        rest = {one: other for one, other in standing.items() if one != address}
                        rest.update({address + "0": parts[0], address + "1": parts[1]})
                        longer[tuple(sorted(steps + ((address, cutter),)))] = rest
        found = longer
    return sorted(list(steps) for steps in found)


def boxes_of(book, start, history, places):
    """Return (address, west, north, east, south) of the rooms behind a history whose cuts have these places.

    The places are fractions by the addresses of the cuts: how far each one lies in its room.
    """
    rooms = {"": start}
    boxes = {"": (Fraction(0), Fraction(0), Fraction(1), Fraction(1))}
    for address, cutter in history:
        cut = book.cut(rooms[address], cutter)
        parts = book.parts(rooms.pop(address), cutter)
        west, north, east, south = boxes.pop(address)
        rooms[address + "0"], rooms[address + "1"] = parts
        if cut[0] == "|":
            at = west + (east - west) * places[address]
            boxes[address + "0"], boxes[address + "1"] = (west, north, at, south), (at, north, east, south)
        else:
            at = north + (south - north) * places[address]
            boxes[address + "0"], boxes[address + "1"] = (west, north, east, at), (west, at, east, south)
    return [(address,) + box for address, box in sorted(boxes.items())]


def rows_at(boxes, view):
    """Return the set of the rows of a view that are seen in a floor with exact places."""
    if view in "NESW":
        side = {"N": (2, 0), "E": (3, 1), "S": (4, 1), "W": (1, 0)}[view]
        along = [box for box in boxes if box[side[0]] == side[1]]
        along.sort(key=lambda box: box[1] if view in "NS" else box[2])
        return {tuple(box[0] for box in along)}
    low, high, order = (2, 4, 1) if view == "A" else (1, 3, 2)
    stretches = sorted({box[low] for box in boxes} | {box[high] for box in boxes})
    found = set()
    for one, other in zip(stretches, stretches[1:]):
        at = (one + other) / 2
        through = sorted((box for box in boxes if box[low] < at < box[high]), key=lambda box: box[order])
        found.add(tuple(box[0] for box in through))
    return found


def rows_at_all(book, start, history, view, places):
    """Return the rows of a view, ascending, that are seen with any of these places for each cut."""
    found = set()
    addresses = [address for address, _ in history]
    for chosen in itertools.product(places, repeat=len(addresses)):
        boxes = boxes_of(book, start, history, dict(zip(addresses, chosen)))
        found |= rows_at(boxes, view)
    return [list(row) for row in sorted(found)]
