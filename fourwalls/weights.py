"""Weights: a number for each face, and one for each room."""

from fourwalls.errors import InvalidFace, InvalidFaces, InvalidNumber, InvalidString, OtherFaces
from fourwalls.faces import is_faces, is_integer, is_letter, is_room


def check_numbers(faces, numbers):
    """Raise InvalidFace or InvalidNumber unless a dict gives numbers to some of the faces."""
    for name in numbers:
        if not is_letter(name, faces):
            raise InvalidFace(name)
    for face in numbers:
        if not is_integer(numbers[face]):
            raise InvalidNumber(numbers[face])


def check_weights(weights, faces):
    """Raise OtherFaces unless a value is weights with these faces."""
    if not isinstance(weights, Weights) or weights.faces != faces:
        raise OtherFaces()


def made(faces, each, numbers):
    """Return new weights with these numbers, a dict by the faces."""
    given = {**numbers, "each": each}
    return Weights(faces, **given)


def added(one, other, times):
    """Return new weights: the first ones and so many times the second ones."""
    numbers = {face: one[face] + times * other[face] for face in one.faces}
    return made(one.faces, one.each + times * other.each, numbers)


def multiplied(weights, number):
    """Return new weights: so many times the old ones."""
    return made(weights.faces, number * weights.each, {face: number * weights[face] for face in weights.faces})


def told_numbers(faces, numbers):
    """Return the faces with their numbers, as a string."""
    return ", ".join([f"{face} {numbers[face]}" for face in faces])


class Weights:
    """A number for each face, and `each` for a room; the numbers can be changed."""

    def __init__(self, faces, *, each=0, **numbers):
        if not is_faces(faces):
            raise InvalidFaces(faces)
        if not is_integer(each):
            raise InvalidNumber(each)
        check_numbers(faces, numbers)
        self.faces = faces
        self._each = each
        self._numbers = {face: numbers.get(face, 0) for face in faces}

    @property
    def each(self):
        """The number that each room has of its own."""
        return self._each

    def put(self, face, number):
        """Give a face another number."""
        self[face] = number

    def copy(self):
        """Return independent weights with the same numbers."""
        return made(self.faces, self._each, self._numbers)

    def __getitem__(self, at):
        if not is_letter(at, self.faces):
            raise InvalidFace(at)
        return self._numbers[at]

    def __setitem__(self, at, worth):
        if not is_letter(at, self.faces):
            raise InvalidFace(at)
        if not is_integer(worth):
            raise InvalidNumber(worth)
        self._numbers[at] = worth

    def __iter__(self):
        raise TypeError("weights are not iterated over")

    def __call__(self, room):
        if not is_room(room, self.faces):
            raise InvalidString(room)
        return self._each + sum([self._numbers[face] for face in room])

    def __add__(self, other):
        check_weights(other, self.faces)
        return added(self, other, 1)

    def __sub__(self, other):
        check_weights(other, self.faces)
        return added(self, other, -1)

    def __iadd__(self, other):
        check_weights(other, self.faces)
        total = added(self, other, 1)
        self._each = total.each
        self._numbers = {face: total[face] for face in self.faces}
        return self

    def __neg__(self):
        return multiplied(self, -1)

    def __mul__(self, other):
        if not is_integer(other):
            return NotImplemented
        return multiplied(self, other)

    def __rmul__(self, other):
        if not is_integer(other):
            return NotImplemented
        return multiplied(self, other)

    def __eq__(self, other):
        if not isinstance(other, Weights):
            return False
        return self.faces == other.faces and self._each == other._each and self._numbers == other._numbers

    def __bool__(self):
        return any([number != 0 for number in [self._each] + list(self._numbers.values())])

    def __repr__(self):
        return f"Weights(each {self._each}, {told_numbers(self.faces, self._numbers)})"
