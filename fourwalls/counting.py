"""How many histories there are, and what comes on floors that are cut at whole places alone."""

from math import comb

from fourwalls.errors import InvalidNumber
from fourwalls.faces import is_number, parts_of
from fourwalls.rooms import check_room, origins_of

_MOST_CUTS = 30
_MOST_SIZE = 8


def check_cuts(book, start, cuts):
    """Raise the errors of a question that counts histories."""
    check_room(book, start)
    if not is_number(cuts, 0, _MOST_CUTS):
        raise InvalidNumber(cuts)


def check_sizes(book, start, wide, high):
    """Raise the errors of a question about a floor that is cut at whole places."""
    check_room(book, start)
    for size in (wide, high):
        if not is_number(size, 1, _MOST_SIZE):
            raise InvalidNumber(size)


def all_cuts(book, start):
    """Return for each room that can come the triples (sign, first part, second part), one for each cutter that cuts."""
    found = {}
    for room in origins_of(book, start):
        cuts = [book.cut(room, cutter) for cutter in book.cutters]
        found[room] = [(cut[0],) + tuple(parts_of(room, cut)) for cut in cuts if cut != ""]
    return found


def count_behind(book, start, cuts, factors):
    """Return the number of ways to make this number of cuts in a start.

    The item k of the list factors[n] tells in how many ways k cuts of the first part and n - k of the second one
    follow on a cut.
    """
    parts = all_cuts(book, start)
    counts = {room: [1] for room in parts}
    for row in factors[:cuts]:
        for room in parts:
            total = 0
            for _, first, second in parts[room]:
                # The lists of both parts may be longer by one already; what is new in them is not used.
                left = counts[second][len(row) - 1::-1]
                total += sum([factor * one * other for factor, one, other in zip(row, counts[first], left)])
            counts[room].append(total)
    return counts[start][cuts]


def trees_of(book, start, cuts):
    """Return the number of plain histories with this number of cuts."""
    check_cuts(book, start, cuts)
    return count_behind(book, start, cuts, [[1 for _ in range(many + 1)] for many in range(cuts)])


def histories_of(book, start, cuts):
    """Return the number of histories with this number of cuts in which no cutter goes away."""
    check_cuts(book, start, cuts)
    # The cuts of both parts may follow one another in any order.
    return count_behind(book, start, cuts, [[comb(many, one) for one in range(many + 1)] for many in range(cuts)])


def parted_sizes(sign, wide, high):
    """Return the pairs of the sizes of both parts for the whole places of a cut with this sign."""
    if sign == "|":
        return [((at, high), (wide - at, high)) for at in range(1, wide)]
    return [((wide, at), (wide, high - at)) for at in range(1, high)]


def fold_sizes(book, start, wide, high, over):
    """Return a value for a start that is wide and high, made of those of smaller rooms.

    over(pairs) makes the value of a room from the pairs of those of both parts, one for each cutter and place.
    """
    cuts = all_cuts(book, start)
    values = {}
    for width in range(1, wide + 1):
        for height in range(1, high + 1):
            sizes = {sign: parted_sizes(sign, width, height) for sign in "|-"}
            for room in cuts:
                pairs = []
                for sign, first, second in cuts[room]:
                    pairs.extend([(values[first, one], values[second, other]) for one, other in sizes[sign]])
                values[room, (width, height)] = over(pairs)
    return values[start, (wide, high)]


def grid_trees(book, start, wide, high):
    """Return the number of pairs of a plain history and whole places of its cuts."""
    check_sizes(book, start, wide, high)
    return fold_sizes(book, start, wide, high, lambda pairs: 1 + sum([one * other for one, other in pairs]))


def most_rooms(book, start, wide, high):
    """Return the greatest number of rooms that can stand if all cuts have whole places."""
    check_sizes(book, start, wide, high)
    return fold_sizes(book, start, wide, high, lambda pairs: max([1] + [one + other for one, other in pairs]))
