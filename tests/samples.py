"""Values and calls that several tests use."""

import itertools
from fractions import Fraction

from fourwalls.alike import Alike
from fourwalls.back import Back, Come
from fourwalls.books import Book
from fourwalls.desk import Desk
from fourwalls.grids import Plan
from fourwalls.live import Floor
from fourwalls.machines import Machine
from fourwalls.papers import Paper
from fourwalls.ratios import Ratio
from fourwalls.strands import Strand
from fourwalls.weights import Weights

# Every character that a string may have.
CHARACTERS = [chr(code) for code in range(ord(" "), ord("~") + 1)] + ["\n"]

LINES = (
    ("a", ".", ".", ".", "A", "|ab"),
    (".", ".", ".", ".", "A", "|ba"),
    (".", ".", ".", ".", "B", "-ba"),
)

# The book of the examples: one cutter cuts upright, the other one level.
CROSS = Book("ab", "AB", (".", ".", ".", ".", "A", "|ab"), (".", ".", ".", ".", "B", "-ba"))

# A plan with faces that no other sample has.
PLAIN_PLAN = Plan("q", 1, 1, [(0, 0, 1, 1, "qqqq")])

# The rule of [7] for each sign and view.
RULES = {
    "|": {"N": "both", "E": "second", "S": "both", "W": "first", "A": "both", "D": "either"},
    "-": {"N": "first", "E": "both", "S": "second", "W": "both", "A": "either", "D": "both"},
}


def cuts_of(book, view, room):
    """Return the tuples (cutter, rule, first part, second part) of the cuts of a room."""
    found = []
    for cutter in book.cutters:
        if book.cut(room, cutter) != "":
            found.append((cutter, RULES[book.cut(room, cutter)[0]][view], *book.parts(room, cutter)))
    return found


def named(how, first, second):
    """Return the parts that a rule names."""
    return {"both": [first, second], "first": [first], "second": [second], "either": [first, second]}[how]


def draw_room(draw, faces):
    """Draw a room with these faces."""
    return "".join(draw.choice(faces) for _ in range(4))


def draw_choice(draw, letters, wild):
    """Draw a part of a line: `.` with this chance, or some of the letters."""
    if draw.random() < wild:
        return "."
    return "".join(sorted(draw.sample(letters, draw.randint(1, len(letters)))))


def draw_book(draw, faces, cutters, many, wild=0.7):
    """Draw a book with so many lines."""
    lines = []
    for _ in range(many):
        cut = "" if draw.random() < 0.1 else draw.choice("|-") + draw.choice(faces) + draw.choice(faces)
        sides = [draw_choice(draw, faces, wild) for _ in range(4)]
        lines.append((*sides, draw_choice(draw, cutters, wild / 2), cut))
    return Book(faces, cutters, *lines)


def draw_machine(draw, faces, most=6):
    """Draw a machine: one of the three kinds that have names, or any table."""
    text = "".join(draw.choice(faces) for _ in range(draw.randint(1, 4)))
    modulus = draw.randint(2, 5)
    size = draw.randint(1, most)
    table = [[draw.randrange(size) for _ in faces] for _ in range(size)]
    return draw.choice([
        Machine.without(faces, text), Machine.begins(faces, text),
        Machine.counted(faces, draw.choice(faces), modulus, rest=draw.randrange(modulus)),
        Machine(faces, table, sorted(draw.sample(range(size), draw.randint(0, size // 2)))),
    ])


def draw_history(draw, book, start, most):
    """Draw a history of up to so many steps, of which some may go away."""
    standing = {"": start}
    history = []
    for _ in range(draw.randint(0, most)):
        address = draw.choice(sorted(standing))
        cutter = draw.choice(book.cutters)
        history.append((address, cutter))
        parts = book.parts(standing[address], cutter)
        if len(parts) == 2:
            del standing[address]
            standing[address + "0"], standing[address + "1"] = parts
    return history


PLACES = ((1, 2), (1, 3), (2, 3), (1, 4), (3, 4), (2, 4))


def draw_steps(draw, book, start, most, places=PLACES):
    """Draw a placed history of up to so many steps, of which some may go away, with some of these places."""
    return [step + draw.choice(places) for step in draw_history(draw, book, start, most)]


def laid_out(book, start, steps):
    """Return a dict by addresses of the (room, west, north, east, south) behind a placed history, with fractions."""
    floor = {"": (start, Fraction(0), Fraction(0), Fraction(1), Fraction(1))}
    for address, cutter, top, bottom in steps:
        room, west, north, east, south = floor[address]
        parts = book.parts(room, cutter)
        if len(parts) == 2:
            del floor[address]
            if book.cut(room, cutter)[0] == "|":
                at = west + (east - west) * Fraction(top, bottom)
                boxes = ((west, north, at, south), (at, north, east, south))
            else:
                at = north + (south - north) * Fraction(top, bottom)
                boxes = ((west, north, east, at), (west, at, east, south))
            for index in (0, 1):
                floor[address + str(index)] = (parts[index], *boxes[index])
    return floor


def meeting_out(floor):
    """Return the sorted triples of the rooms that meet in a floor with fractions."""
    found = []
    for one, (_, west, north, east, south) in floor.items():
        for other, (_, west2, north2, east2, south2) in floor.items():
            if east == west2 and min(south, south2) > max(north, north2):
                found.append(("|", one, other))
            if south == north2 and min(east, east2) > max(west, west2):
                found.append(("-", one, other))
    return sorted(found)


def draw_question(draw, most=4):
    """Draw a book of one up to most faces, a start, and a view."""
    faces = "abcdef"[:draw.randint(1, most)]
    book = draw_book(draw, faces, "ABCD"[:draw.randint(1, 4)], draw.randint(0, 8), draw.choice([0.4, 0.6, 0.8]))
    return book, draw_room(draw, faces), draw.choice("NESWAD")


def any_values():
    """Return values of every kind that a caller may pass for a wrong argument."""
    return [
        -1, 0, 1, 2, 999999999999999999, -999999999999999999, True, False, None,
        "", " ", "a", "A", ".", "-", "|", "aaaa", "no\nrow", "~" * 4000,
        [], (), [[]], ((),), [1], (1,), ["a"], ("a",), [True], (None,), ["aaaa", "A"], ("", "A"), ["", "A"],
        ("", ["A"]), ([""], "A"), (("",), "A"), (["a", ("b", [1, (True, [None])])],), [[[[[[1]]]]]],
        Book("ab", "A"), (Book("ab", "A"),), [Book("ab", "A"), 1],
        Machine("q", [(0,)]), Weights("q", q=1), [("aaaa", Weights("ab"))],
        Strand(CROSS, "aaaa", "N", [], None), Paper(CROSS, "aaaa"), Ratio(1, 2), (Ratio(1, 2),),
        PLAIN_PLAN, [PLAIN_PLAN], Back(Book("q", "Q"), "qqqq", PLAIN_PLAN), Come(CROSS, "aaaa", PLAIN_PLAN, []),
        Alike(CROSS, CROSS, "aaaa", []), Floor(Book("q", "Q"), "qqqq"), [Floor(CROSS, "aaaa")],
        Desk(Floor(Book("q", "Q"), "qqqq")),
    ]


def raised(call, *given, **named):
    """Return the error that a call raises; fail if it raises none."""
    try:
        call(*given, **named)
    except Exception as error:
        return error
    raise AssertionError("nothing was raised")


def told(error):
    """Return the name of an error's class and its own attributes without the code."""
    return error.__class__.__name__, {name: value for name, value in vars(error).items() if name != "code"}


# A book with three faces whose rooms are cut in unlike ways, or not at all.
RICH = Book(
    "abc", "ABC",
    ("c", ".", ".", ".", "A", ""), (".", "ab", ".", ".", "A", "|cb"), ("ab", ".", ".", "a", "B", "-ac"),
    (".", ".", "c", ".", "BC", "|ba"), (".", ".", ".", "bc", "C", "-bb"),
)


def all_histories(book, start, cuts):
    """Return the plain histories with this number of cuts, one for each tree."""
    found = {(): {"": start}}
    for _ in range(cuts):
        longer = {}
        for steps, standing in found.items():
            for address, room in standing.items():
                for cutter in book.cutters:
                    parts = book.parts(room, cutter)
                    if len(parts) == 2:
                        rest = {one: other for one, other in standing.items() if one != address}
                        rest.update({address + "0": parts[0], address + "1": parts[1]})
                        longer[tuple(sorted(steps + ((address, cutter),)))] = rest
        found = longer
    return sorted(list(steps) for steps in found)


def boxes_of(book, start, history, places):
    """Return (address, west, north, east, south) of the rooms behind a history whose cuts have these places.

    The places are fractions by the addresses of the cuts: how far each one lies in its room.
    """
    rooms = {"": start}
    boxes = {"": (Fraction(0), Fraction(0), Fraction(1), Fraction(1))}
    for address, cutter in history:
        cut = book.cut(rooms[address], cutter)
        parts = book.parts(rooms.pop(address), cutter)
        west, north, east, south = boxes.pop(address)
        rooms[address + "0"], rooms[address + "1"] = parts
        if cut[0] == "|":
            at = west + (east - west) * places[address]
            boxes[address + "0"], boxes[address + "1"] = (west, north, at, south), (at, north, east, south)
        else:
            at = north + (south - north) * places[address]
            boxes[address + "0"], boxes[address + "1"] = (west, north, east, at), (west, at, east, south)
    return [(address,) + box for address, box in sorted(boxes.items())]


def rows_at(boxes, view):
    """Return the set of the rows of a view that are seen in a floor with exact places."""
    if view in "NESW":
        side = {"N": (2, 0), "E": (3, 1), "S": (4, 1), "W": (1, 0)}[view]
        along = [box for box in boxes if box[side[0]] == side[1]]
        along.sort(key=lambda box: box[1] if view in "NS" else box[2])
        return {tuple(box[0] for box in along)}
    low, high, order = (2, 4, 1) if view == "A" else (1, 3, 2)
    stretches = sorted({box[low] for box in boxes} | {box[high] for box in boxes})
    found = set()
    for one, other in zip(stretches, stretches[1:]):
        at = (one + other) / 2
        through = sorted((box for box in boxes if box[low] < at < box[high]), key=lambda box: box[order])
        found.add(tuple(box[0] for box in through))
    return found


def rows_at_all(book, start, history, view, places):
    """Return the rows of a view, ascending, that are seen with any of these places for each cut."""
    found = set()
    addresses = [address for address, _ in history]
    for chosen in itertools.product(places, repeat=len(addresses)):
        boxes = boxes_of(book, start, history, dict(zip(addresses, chosen)))
        found |= rows_at(boxes, view)
    return [list(row) for row in sorted(found)]
