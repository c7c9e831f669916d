"""Desks: answers to lines about a live floor."""

from fourwalls.errors import HouseError, NothingLeft
from fourwalls.faces import is_string
from fourwalls.kept import verdict
from fourwalls.machines import Machine
from fourwalls.rooms import reached
from fourwalls.touch import touch_of

_UNKNOWN = "unknown"
_MOST_DIGITS = 3


def number_of(word):
    """Return the number that a word of one to three digits tells, and any other word as it is."""
    return int(word) if len(word) <= _MOST_DIGITS and is_string(word, "0123456789") else word


def address_of(word):
    """Return the address for which a word stands."""
    return "" if word == "." else word


def answer_cut(floor, words):
    """Answer `cut ADDRESS CUTTER` or `cut ADDRESS CUTTER TOP BOTTOM`."""
    top, bottom = (1, 2) if len(words) == 3 else (number_of(words[3]), number_of(words[4]))
    cut = floor.cut(address_of(words[1]), words[2], top, bottom)
    return "none" if cut == "" else cut


def answer_unite(floor, words):
    """Answer `unite ADDRESS`."""
    return floor.unite(address_of(words[1]))


def answer_undo(floor, words):
    """Answer `undo`."""
    floor.undo()
    return "done"


def answer_redo(floor, words):
    """Answer `redo`."""
    floor.redo()
    return "done"


def answer_rooms(floor, words):
    """Answer `rooms`."""
    return str(len(floor))


def answer_room(floor, words):
    """Answer `room ADDRESS`."""
    return floor.room(address_of(words[1]))


def answer_side(floor, words):
    """Answer `side VIEW`."""
    return " ".join([floor.room(address) for address in floor.side(words[1])])


def answer_come(floor, words):
    """Answer `come ADDRESS`."""
    return " ".join(reached(floor.book, floor.room(address_of(words[1]))))


def answer_meet(floor, words):
    """Answer `meet ADDRESS ADDRESS`."""
    one, other = [address_of(word) for word in words[1:]]
    # Both rooms are asked for only to have the error of an address that is none of a room.
    floor.room(one)
    floor.room(other)
    for sign, first, second in floor.meeting():
        if (first, second) == (one, other) or (first, second) == (other, one):
            return sign
    return "no"


def answer_touch(floor, words):
    """Answer `touch SIGN ROOM ROOM`."""
    paper = touch_of(floor.book, floor.start, words[1], words[2], words[3])
    return "no" if paper is None else "yes"


def machine_for(faces, words):
    """Return the machine that WORDS of a wish tell, or None if they have not the right form."""
    if len(words) == 2 and words[0] == "without":
        return Machine.without(faces, words[1])
    if len(words) == 2 and words[0] == "begins":
        return Machine.begins(faces, words[1])
    if len(words) == 4 and words[0] == "counted":
        return Machine.counted(faces, words[1], number_of(words[2]), rest=number_of(words[3]))
    return None


def answer_wish(floor, words):
    """Answer `wish VIEW WORDS`."""
    machine = machine_for(floor.book.faces, words[2:])
    return _UNKNOWN if machine is None else verdict(floor.book, floor.start, words[1], machine).told()


_ANSWERS = {
    "cut": answer_cut, "unite": answer_unite, "undo": answer_undo, "redo": answer_redo, "rooms": answer_rooms,
    "room": answer_room, "side": answer_side, "come": answer_come, "meet": answer_meet, "touch": answer_touch,
    "wish": answer_wish,
}

# The numbers of words that a line with this first word may have.
_SIZES = {
    "cut": (3, 5), "unite": (2,), "undo": (1,), "redo": (1,), "rooms": (1,), "room": (2,), "side": (2,), "come": (2,),
    "meet": (3,), "touch": (4,), "wish": (4, 6),
}


def answer_to(floor, line):
    """Return the answer to a line about a live floor."""
    words = line.split(" ")
    if "\n" in line or "" in words or words[0] not in _ANSWERS or len(words) not in _SIZES[words[0]]:
        return _UNKNOWN
    answer = _ANSWERS[words[0]]
    try:
        return answer(floor, words)
    except (HouseError, NothingLeft) as error:
        return f"error {error.code}"


class Desk:
    """A place where lines about a live floor are answered, and kept with their answers."""

    def __init__(self, floor):
        self._live = floor
        self._lines = []

    @property
    def floor(self):
        """The live floor about which lines are answered."""
        return self._live

    def say(self, line):
        """Return the answer to a line."""
        answer = answer_to(self._live, line)
        self._lines.append((line, answer))
        return answer

    def __call__(self, line):
        return self.say(line)

    def log(self):
        """Return the list of the pairs (line, answer)."""
        return list(self._lines)

    def __len__(self):
        return len(self._lines)

    def __bool__(self):
        return True

    def __repr__(self):
        return f"Desk({len(self._lines)} lines)"
