"""Links: from which state to which one a machine may come over a row of a room.

The links of a room are kept as a list with a number for each state, whose bits are the states to which it leads.
"""

from fourwalls.bits import indexes_in
from fourwalls.faces import is_number
from fourwalls.views import NAMED, members, splits


def whole_links(machine, room):
    """Return the links of a room that stands whole."""
    return [1 << machine(room, state) for state in range(machine.size)]


def told_links(pairs, size):
    """Return the links that a list of pairs of states tells, or None if it is no such list."""
    if not isinstance(pairs, (list, tuple)):
        return None
    links = [0 for _ in range(size)]
    for pair in pairs:
        if not isinstance(pair, tuple) or len(pair) != 2:
            return None
        state, end = pair
        if not is_number(state, 0, size - 1) or not is_number(end, 0, size - 1):
            return None
        links[state] = links[state] | 1 << end
    return links


def pairs_in(links):
    """Return the ascending list of the pairs of states of links."""
    return [(state, end) for state, bits in enumerate(links) for end in indexes_in(bits)]


def ends_in(bits, links):
    """Return as bits the states to which links lead from some of these states."""
    ends = 0
    for state in indexes_in(bits):
        ends = ends | links[state]
    return ends


def cut_links(how, links):
    """Return the links of a cut room by a rule, of the list of those of the parts that it names."""
    if how == "both":
        return [ends_in(bits, links[1]) for bits in links[0]]
    if len(links) == 1:
        return links[0]
    return both_links(links[0], links[1])


def both_links(one, other):
    """Return the links that stand in one of two, or in both."""
    return [left | right for left, right in zip(one, other)]


def covers_links(one, how, links):
    """Tell whether links have all those of a room that is cut by this rule, as in cut_links."""
    return both_links(one, cut_links(how, links)) == one


def users_of(book, view, rooms):
    """Return for each room the ascending list of the rooms that have a cut whose rule names it."""
    users = {room: {} for room in rooms}
    for room in rooms:
        for _, how, parts in splits(book, view, room):
            for index in NAMED[how]:
                users[parts[index]][room] = True
    return {room: sorted(list(users[room])) for room in rooms}


def all_links(book, start, view, machine):
    """Return the links of all members, a dict by rooms."""
    rooms = members(book, start, view)
    cuts = {room: splits(book, view, room) for room in rooms}
    users = users_of(book, view, rooms)
    links = {room: whole_links(machine, room) for room in rooms}
    waiting = rooms
    while waiting:
        changed = {}
        for room in waiting:
            more = links[room]
            for _, how, parts in cuts[room]:
                more = both_links(more, cut_links(how, [links[parts[index]] for index in NAMED[how]]))
            if more != links[room]:
                links[room] = more
                for user in users[room]:
                    changed[user] = True
        waiting = sorted(list(changed))
    return links


def keeps_all(machine, links):
    """Tell whether the links of a start do not lead from the state 0 to a bad one."""
    return not any([machine.is_bad(state) for state in indexes_in(links[0])])
