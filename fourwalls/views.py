"""Views: which rooms stand in a row along a side or of a walk."""

from fourwalls.errors import InvalidNumber, InvalidView, TooMany
from fourwalls.faces import is_letter, is_number, parts_of
from fourwalls.rooms import check_room, grown

VIEWS = "NESWAD"

# The indexes of the parts that each rule names.
NAMED = {"both": (0, 1), "first": (0,), "second": (1,), "either": (0, 1)}

_UPRIGHT = {"N": "both", "E": "second", "S": "both", "W": "first", "A": "both", "D": "either"}
_LEVEL = {"N": "first", "E": "both", "S": "second", "W": "both", "A": "either", "D": "both"}
_MOST_ROWS = 2000
_MOST_CUTS = 3


def is_view(value):
    """Tell whether a value is a view."""
    return is_letter(value, VIEWS)


def check_view(view):
    """Raise InvalidView unless a value is a view."""
    if not is_view(view):
        raise InvalidView(view)


def rule(view, cut):
    """Return the rule of a view for a cut: both, first, second or either."""
    check_view(view)
    return _UPRIGHT[view] if cut[0] == "|" else _LEVEL[view]


def splits(book, view, room):
    """Return the triples (cutter, rule, parts) of the cuts of a room, in the order of the cutters."""
    found = []
    for cutter in book.cutters:
        cut = book.cut(room, cutter)
        if cut != "":
            found.append((cutter, rule(view, cut), parts_of(room, cut)))
    return found


def members(book, start, view):
    """Return the ascending list of the rooms that stand in a row of the view."""
    check_room(book, start)
    check_view(view)
    found = {start: True}
    waiting = [start]
    while waiting:
        room = waiting.pop()
        for _, how, parts in splits(book, view, room):
            for index in NAMED[how]:
                if parts[index] not in found:
                    found[parts[index]] = True
                    waiting.append(parts[index])
    return sorted(list(found))


def tree_rules(book, cuts, view):
    """Return the pairs (address, rule) of the cuts of a tree, each one behind those in its parts."""
    found = []
    for address in sorted(list(cuts), reverse=True):
        room, cutter = cuts[address]
        found.append((address, rule(view, book.cut(room, cutter))))
    return found


def count_rows(standing, rules):
    """Return the number of rows of a tree."""
    counts = {address: 1 for address in standing}
    for address, how in rules:
        first = counts[address + "0"]
        second = counts[address + "1"]
        options = {"both": first * second, "first": first, "second": second, "either": first + second}
        counts[address] = options[how]
    return counts[""]


def list_rows(standing, rules):
    """Return the rows of a tree, ascending, each a list of addresses."""
    rows = {address: [[address]] for address in standing}
    for address, how in rules:
        # The rows of the parts are needed no more, and all of them together may be very long.
        first = rows.pop(address + "0")
        second = rows.pop(address + "1")
        if how == "both":
            rows[address] = [one + other for one in first for other in second]
        elif how == "either":
            rows[address] = first + second
        else:
            rows[address] = first if how == "first" else second
    return sorted(rows[""])


def rows_behind(book, start, history, view):
    """Return the rows of a view behind a history, ascending, each a list of addresses."""
    standing, cuts = grown(book, start, history)
    check_view(view)
    rules = tree_rules(book, cuts, view)
    # The number of rows may be far too great for making them first.
    if count_rows(standing, rules) > _MOST_ROWS:
        raise TooMany(_MOST_ROWS)
    return list_rows(standing, rules)


def rows_seen(book, start, history, view):
    """Generate the rows of a view behind a history, ascending, each a list of addresses."""
    for row in rows_behind(book, start, history, view):
        yield row


def cut_texts(book, view, room, cuts):
    """Return the texts of the rows of a room with just this number of cuts; one may stand twice."""
    if cuts == 0:
        return [room]
    found = []
    for _, how, parts in splits(book, view, room):
        found.extend(part_texts(book, view, how, parts, cuts - 1))
    return found


def part_texts(book, view, how, parts, cuts):
    """Return the texts of the rows of a cut room whose parts have this number of cuts together."""
    if how != "both":
        return [text for at in NAMED[how] for text in cut_texts(book, view, parts[at], cuts)]
    found = []
    for many in range(cuts + 1):
        first = cut_texts(book, view, parts[0], many)
        second = cut_texts(book, view, parts[1], cuts - many)
        found.extend([one + other for one in first for other in second])
    return found


def texts_of(book, start, view, cuts):
    """Return the ascending list of the texts of the rows with just this number of cuts."""
    check_room(book, start)
    check_view(view)
    if not is_number(cuts, 0, _MOST_CUTS):
        raise InvalidNumber(cuts)
    return sorted(set(cut_texts(book, view, start, cuts)))
