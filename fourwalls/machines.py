"""Machines: finite tables that read strings of faces and keep some of them."""

from fourwalls.errors import (
    InvalidBad, InvalidFace, InvalidFaces, InvalidModulus, InvalidRest, InvalidString, InvalidTable, OtherFaces,
    TooMany, UnknownState,
)
from fourwalls.faces import MOST_TEXT, is_faces, is_letter, is_number, is_string

_LEAST_MODULUS = 2
_MOST_MODULUS = 8


def is_row(value, faces, size):
    """Tell whether a value is a list or tuple with one of so many states for each face."""
    if not isinstance(value, (list, tuple)) or len(value) != len(faces):
        return False
    return all([is_number(state, 0, size - 1) for state in value])


def check_table(faces, table):
    """Raise InvalidTable unless a value is the table of a machine with these faces."""
    if not isinstance(table, (list, tuple)) or not 1 <= len(table) <= Machine.MOST:
        raise InvalidTable(-1)
    for at, row in enumerate(table):
        if not is_row(row, faces, len(table)):
            raise InvalidTable(at)


def check_bad(size, bad):
    """Raise InvalidBad unless a value lists some of so many states, ascending."""
    if not isinstance(bad, (list, tuple)):
        raise InvalidBad(-1)
    least = 0
    for at, state in enumerate(bad):
        if not is_number(state, least, size - 1):
            raise InvalidBad(at)
        least = state + 1


def check_text(faces, text):
    """Raise the errors of a machine that looks for a text of these faces."""
    if not is_faces(faces):
        raise InvalidFaces(faces)
    if not is_string(text, faces) or not 1 <= len(text) <= MOST_TEXT:
        raise InvalidString(text)


def end_of(faces, table, string, state):
    """Return the state to which a string of the faces leads from a state."""
    at = state
    for face in string:
        at = table[at][faces.index(face)]
    return at


def overlap_of(text, seen):
    """Return the length of the longest start of a text with which a string ends."""
    for size in range(min(len(text), len(seen)), 0, -1):
        if seen.endswith(text[:size]):
            return size
    return 0


def pairs_of(one, other):
    """Return the pairs of states that machines with two tables come to together, and the table of these pairs."""
    places = {(0, 0): 0}
    pairs = [(0, 0)]
    table = []
    while len(table) < len(pairs):
        left, right = pairs[len(table)]
        row = []
        for pair in zip(one[left], other[right]):
            if pair not in places:
                if len(pairs) == Machine.MOST:
                    raise TooMany(Machine.MOST)
                places[pair] = len(pairs)
                pairs.append(pair)
            row.append(places[pair])
        table.append(row)
    return pairs, table


def check_other(one, other):
    """Raise OtherFaces unless the other value is a machine with equal faces."""
    if not isinstance(other, Machine) or one.faces != other.faces:
        raise OtherFaces()


class Machine:
    """Up to 200 states with a next state for each face, some of them bad; a machine never changes."""

    MOST = 200

    def __init__(self, faces, table, bad=()):
        if not is_faces(faces):
            raise InvalidFaces(faces)
        check_table(faces, table)
        check_bad(len(table), bad)
        self.faces = faces
        self._table = tuple([tuple(row) for row in table])
        self._bad = tuple(bad)

    @property
    def size(self):
        """The number of states."""
        return len(self._table)

    def table(self):
        """Return the list of the tuples of next states."""
        return list(self._table)

    def bad(self):
        """Return the list of the bad states."""
        return list(self._bad)

    def is_bad(self, state):
        """Tell whether a state is bad."""
        return state in self._bad

    def __call__(self, string, state=0):
        if not is_string(string, self.faces):
            raise InvalidString(string)
        if not is_number(state, 0, len(self._table) - 1):
            raise UnknownState(state)
        return end_of(self.faces, self._table, string, state)

    def __contains__(self, x):
        return is_string(x, self.faces) and end_of(self.faces, self._table, x, 0) not in self._bad

    def __invert__(self):
        good = [state for state in range(len(self._table)) if state not in self._bad]
        return Machine(self.faces, self._table, good)

    def __and__(self, other):
        check_other(self, other)
        # An operator comes to no method, for another class may have one of the same name.
        pairs, table = pairs_of(self._table, other._table)
        bad = [at for at, (one, two) in enumerate(pairs) if one in self._bad or two in other._bad]
        return Machine(self.faces, table, bad)

    def __or__(self, other):
        check_other(self, other)
        pairs, table = pairs_of(self._table, other._table)
        bad = [at for at, (one, two) in enumerate(pairs) if one in self._bad and two in other._bad]
        return Machine(self.faces, table, bad)

    def __eq__(self, other):
        if not isinstance(other, Machine):
            return False
        return self.faces == other.faces and self._table == other._table and self._bad == other._bad

    def __repr__(self):
        return f"Machine({len(self._table)} states)"

    @staticmethod
    def without(faces, text):
        """Return a machine that keeps the strings in which a text does not stand."""
        check_text(faces, text)
        many = len(text)
        # The state is the length of the longest start of the text that was just read.
        table = [[overlap_of(text, text[:state] + face) for face in faces] for state in range(many)]
        table.append([many for _ in faces])
        return Machine(faces, table, [many])

    @staticmethod
    def begins(faces, text):
        """Return a machine that keeps the strings that begin with a text."""
        check_text(faces, text)
        many = len(text)
        lost = many + 1
        table = [[state + 1 if face == text[state] else lost for face in faces] for state in range(many)]
        table.append([many for _ in faces])
        table.append([lost for _ in faces])
        return Machine(faces, table, [state for state in range(lost + 1) if state != many])

    @staticmethod
    def counted(faces, face, modulus, *, rest=0):
        """Return a machine that keeps the strings in which the number of a face has a rest."""
        if not is_faces(faces):
            raise InvalidFaces(faces)
        if not is_letter(face, faces):
            raise InvalidFace(face)
        if not is_number(modulus, _LEAST_MODULUS, _MOST_MODULUS):
            raise InvalidModulus(modulus)
        if not is_number(rest, 0, modulus - 1):
            raise InvalidRest(rest)
        table = [[(state + 1) % modulus if one == face else state for one in faces] for state in range(modulus)]
        return Machine(faces, table, [state for state in range(modulus) if state != rest])
