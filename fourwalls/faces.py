"""Faces, cutters, rooms and cuts: their forms, and the parts that a cut makes."""

MOST_TEXT = 16

_LOWER = "abcdefghijklmnopqrstuvwxyz"
_UPPER = "ABCDEFGHIJKLMNOPQRSTUVWXYZ"
_MOST_FACES = 6
_MOST_CUTTERS = 4


def is_ascending(text):
    """Tell whether each character of a string is greater than the one before."""
    return all([one < other for one, other in zip(text, text[1:])])


def is_choice(value, letters, most):
    """Tell whether a value is a string of one up to most of the letters, ascending."""
    if not isinstance(value, str) or not 1 <= len(value) <= most:
        return False
    return is_string(value, letters) and is_ascending(value)


def is_faces(value):
    """Tell whether a value is a string of 1 to 6 lowercase letters, ascending."""
    return is_choice(value, _LOWER, _MOST_FACES)


def is_cutters(value):
    """Tell whether a value is a string of 1 to 4 uppercase letters, ascending."""
    return is_choice(value, _UPPER, _MOST_CUTTERS)


def is_integer(value):
    """Tell whether a value is a number of any size."""
    # True and False are integers of Python, but no numbers here.
    return isinstance(value, int) and not isinstance(value, bool)


def is_number(value, least, most):
    """Tell whether a value is a number from least to most."""
    return is_integer(value) and least <= value <= most


def is_address(value):
    """Tell whether a value is a string of the digits 0 and 1."""
    return is_string(value, "01")


def is_string(value, faces):
    """Tell whether a value is a string of these faces, of any length."""
    return isinstance(value, str) and all([face in faces for face in value])


def is_letter(value, letters):
    """Tell whether a value is just one of these letters, as one face or one cutter."""
    return isinstance(value, str) and len(value) == 1 and value in letters


def is_room(value, faces):
    """Tell whether a value is a room: the faces of its north, east, south and west side."""
    return is_string(value, faces) and len(value) == 4


def is_cut(value, faces):
    """Tell whether a value is a cut: a sign and two faces."""
    if not isinstance(value, str) or len(value) != 3:
        return False
    return value[0] in "|-" and is_string(value[1:], faces)


def parts_of(room, cut):
    """Return the list of both parts of a room, or of the room alone if the cut is empty."""
    if cut == "":
        return [room]
    north, east, south, west = room
    sign, one, other = cut
    if sign == "|":
        return [north + one + south + west, north + east + south + other]
    return [north + east + one + west, other + east + south + west]


def rooms_of(faces):
    """Return the list of all rooms with these faces, ascending."""
    pairs = [one + other for one in faces for other in faces]
    return [one + other for one in pairs for other in pairs]
