"""Plans: told rooms in whole numbers that cover a floor."""

from fourwalls.errors import InvalidFaces, InvalidNumber, InvalidPlan
from fourwalls.faces import is_faces, is_number, is_room

# For each side of a room, in the order of its faces, the index of the number in a rectangle at which it lies.
_SIDES = (1, 2, 3, 0)


def is_box(value, wide, high):
    """Tell whether a value is a rectangle of a plan of this size."""
    if not isinstance(value, tuple) or len(value) != 4:
        return False
    west, north, east, south = value
    # The far sides are compared with the near ones only if these are numbers.
    if not is_number(west, 0, wide - 1) or not is_number(north, 0, high - 1):
        return False
    return is_number(east, west + 1, wide) and is_number(south, north + 1, high)


def is_told_room(value, faces, wide, high):
    """Tell whether a value is a told room of a plan with these faces and of this size."""
    if not isinstance(value, tuple) or len(value) != 5:
        return False
    return is_box(value[:4], wide, high) and is_room(value[4], faces)


def cells_in(box):
    """Return the pairs (x, y) of the north west corners of the unit squares in a rectangle."""
    west, north, east, south = box
    return [(x, y) for x in range(west, east) for y in range(north, south)]


def cells_along(box):
    """Return the lists of the squares in a rectangle along its north, east, south and west side."""
    west, north, east, south = box
    across = range(west, east)
    down = range(north, south)
    return [
        [(x, north) for x in across], [(east - 1, y) for y in down],
        [(x, south - 1) for x in across], [(west, y) for y in down],
    ]


def all_boxes(wide, high):
    """Return all rectangles of a plan of this size, each one behind those of less width or height in it."""
    sizes = [(width, height) for width in range(1, wide + 1) for height in range(1, high + 1)]
    found = []
    for width, height in sizes:
        corners = cells_in((0, 0, wide - width + 1, high - height + 1))
        found.extend([(west, north, west + width, north + height) for west, north in corners])
    return found


def squares_of(faces, wide, high, rooms):
    """Return the told room of each unit square of a floor, a dict; raise InvalidPlan unless they cover it."""
    if not isinstance(rooms, (list, tuple)):
        raise InvalidPlan(-1)
    squares = {}
    for at, room in enumerate(rooms):
        if not is_told_room(room, faces, wide, high):
            raise InvalidPlan(at)
        for cell in cells_in(room[:4]):
            if cell in squares:
                raise InvalidPlan(at)
            squares[cell] = room
    if len(squares) < wide * high:
        raise InvalidPlan(len(rooms))
    return squares


class Plan:
    """A width, a height, and told rooms that cover the floor; a plan never changes."""

    MOST = 12

    def __init__(self, faces, wide, high, rooms):
        if not is_faces(faces):
            raise InvalidFaces(faces)
        for size in (wide, high):
            if not is_number(size, 1, Plan.MOST):
                raise InvalidNumber(size)
        self._squares = squares_of(faces, wide, high, rooms)
        self._told = sorted(list(rooms))
        self.faces = faces
        self.wide = wide
        self.high = high

    def rooms(self):
        """Return the ascending list of the told rooms."""
        return list(self._told)

    def whole(self):
        """Return the rectangle of the whole floor."""
        return (0, 0, self.wide, self.high)

    def room_of(self, box):
        """Return the room that a rectangle makes, or None."""
        if not is_box(box, self.wide, self.high):
            return None
        room = ""
        for side, cells in enumerate(cells_along(box)):
            told = [self._squares[cell] for cell in cells]
            # A told room that lies across the side has its own side elsewhere.
            if not all([one[_SIDES[side]] == box[_SIDES[side]] for one in told]):
                return None
            face = told[0][4][side]
            if not all([one[4][side] == face for one in told]):
                return None
            room += face
        return room

    def __eq__(self, other):
        if not isinstance(other, Plan) or self.faces != other.faces:
            return False
        return self.wide == other.wide and self.high == other.high and self._told == other._told

    def __len__(self):
        return len(self._told)

    def __bool__(self):
        return True

    def __repr__(self):
        return f"Plan({len(self._told)} rooms)"
