"""Books: lines that tell by the four faces of a room how a cutter cuts it."""

from fourwalls.errors import InvalidCutter, InvalidCutters, InvalidFaces, InvalidLine, InvalidRoom, InvalidText
from fourwalls.faces import is_choice, is_cut, is_cutters, is_faces, is_letter, is_number, is_room, parts_of, rooms_of


def is_part(value, letters):
    """Tell whether a value is `.`, or one or more of the letters, ascending."""
    return is_letter(value, ".") or is_choice(value, letters, len(letters))


def is_line(value, faces, cutters):
    """Tell whether a value is a line of a book with these faces and cutters."""
    if not isinstance(value, tuple) or len(value) != 6:
        return False
    if not all([is_part(part, faces) for part in value[:4]]) or not is_part(value[4], cutters):
        return False
    return value[5] == "" or is_cut(value[5], faces)


def fits(line, room, cutter):
    """Tell whether a line fits a room and a cutter."""
    # The faces and the cutter end ahead of the cut of the line, and so does zip.
    return all([part == "." or letter in part for part, letter in zip(line, room + cutter)])


def head_of(row):
    """Return the faces and the cutters that the first row of a text tells, or None."""
    words = row.split(" ")
    if len(words) != 2 or not is_faces(words[0]) or not is_cutters(words[1]):
        return None
    return words[0], words[1]


def line_of(row, faces, cutters):
    """Return the line of a book that a row of a text tells, or None."""
    words = row.split(" ")
    # An empty last word would be taken for the empty cut, which is told by `none` alone.
    if len(words) != 6 or words[5] == "":
        return None
    if words[5] == "none":
        words[5] = ""
    line = tuple(words)
    return line if is_line(line, faces, cutters) else None


def row_of(line):
    """Return the row of a text that tells a line of a book."""
    cut = "none" if line[5] == "" else line[5]
    return " ".join([line[0], line[1], line[2], line[3], line[4], cut])


class Book:
    """Faces, cutters and at most 8 lines; a book never changes."""

    MOST = 8

    def __init__(self, faces, cutters, *lines):
        if not is_faces(faces):
            raise InvalidFaces(faces)
        if not is_cutters(cutters):
            raise InvalidCutters(cutters)
        for at, line in enumerate(lines):
            if at >= Book.MOST or not is_line(line, faces, cutters):
                raise InvalidLine(at)
        self.faces = faces
        self.cutters = cutters
        self._lines = lines

    def lines(self):
        """Return the list of the lines."""
        return list(self._lines)

    def cut(self, room, cutter):
        """Return the cut of a room by a cutter; it is empty if the cutter goes away."""
        at = self.line_at(room, cutter)
        return "" if at is None else self._lines[at][5]

    def parts(self, room, cutter):
        """Return the list of both parts of a room, or of the room alone if its cut is empty."""
        return parts_of(room, self.cut(room, cutter))

    def line_at(self, room, cutter):
        """Return the index of the first line that fits, or None."""
        if not is_room(room, self.faces):
            raise InvalidRoom(room)
        if not is_letter(cutter, self.cutters):
            raise InvalidCutter(cutter)
        for at, line in enumerate(self._lines):
            if fits(line, room, cutter):
                return at
        return None

    def idle(self):
        """Return the indexes of the lines that are the first that fits for no room and cutter."""
        used = {}
        for room in rooms_of(self.faces):
            for cutter in self.cutters:
                used[self.line_at(room, cutter)] = True
        return [at for at in range(len(self._lines)) if at not in used]

    def muted(self, *at):
        """Return the book with the empty cut in the lines with these indexes."""
        for value in at:
            if not is_number(value, 0, len(self._lines) - 1):
                raise InvalidLine(value)
        lines = [line[:5] + ("",) if k in at else line for k, line in enumerate(self._lines)]
        return Book(self.faces, self.cutters, *lines)

    def text(self):
        """Return the text of the book: its faces and cutters, and a row for each line."""
        return "\n".join([f"{self.faces} {self.cutters}"] + [row_of(line) for line in self._lines])

    @staticmethod
    def read(text):
        """Return the book with this text."""
        if not isinstance(text, str):
            raise InvalidText(0)
        rows = text.split("\n")
        head = head_of(rows[0])
        if head is None:
            raise InvalidText(0)
        faces, cutters = head
        lines = []
        for at in range(1, len(rows)):
            line = line_of(rows[at], faces, cutters)
            if line is None or at > Book.MOST:
                raise InvalidText(at)
            lines.append(line)
        return Book(faces, cutters, *lines)

    def __eq__(self, other):
        if not isinstance(other, Book):
            return False
        return self.faces == other.faces and self.cutters == other.cutters and self._lines == other._lines

    def __len__(self):
        return len(self._lines)

    def __bool__(self):
        # Without it a book without lines would be false by its length.
        return True

    def __repr__(self):
        return f"Book({len(self._lines)} lines)"
