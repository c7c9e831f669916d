"""Pages: live floors as texts, and tables of their rooms."""

from fourwalls.books import Book
from fourwalls.errors import HouseError, InvalidPage, InvalidText
from fourwalls.faces import is_address, is_room, is_string
from fourwalls.live import Floor
from fourwalls.ratios import Ratio

_DIGITS = "0123456789"
_MOST_DIGITS = 18


def told_address(address):
    """Return the word for an address."""
    return "." if address == "" else address


def write_page(floor):
    """Return the page of a live floor."""
    rows = [floor.book.text(), f"floor {floor.start}"]
    for address, cutter, top, bottom in floor.plain():
        rows.append(f"cut {told_address(address)} {cutter} {top} {bottom}")
    return "\n".join(rows) + "\n"


def address_in(word):
    """Return the address that a word tells, or None."""
    if word == ".":
        return ""
    return word if word != "" and is_address(word) else None


def number_in(word):
    """Return the number that a word tells, or None."""
    if not 1 <= len(word) <= _MOST_DIGITS or not is_string(word, _DIGITS):
        return None
    return None if len(word) > 1 and word[0] == "0" else int(word)


def step_in(row):
    """Return the placed step that a row of a page tells, or None."""
    words = row.split(" ")
    if len(words) != 5 or words[0] != "cut":
        return None
    address = address_in(words[1])
    top = number_in(words[3])
    bottom = number_in(words[4])
    if address is None or top is None or bottom is None:
        return None
    return (address, words[2], top, bottom)


def is_lowest(top, bottom):
    """Tell whether two numbers are a fraction in lowest terms, with a bottom above 0."""
    if bottom < 1:
        return False
    ratio = Ratio(top, bottom)
    return ratio.top == top and ratio.bottom == bottom


def does_step(floor, step):
    """Tell whether a placed step can be done on a live floor and cuts a room; do it if so."""
    address, cutter, top, bottom = step
    try:
        return floor.cut(address, cutter, top, bottom) != ""
    except HouseError:
        return False


def read_book(rows):
    """Return the book whose text has these rows."""
    try:
        return Book.read("\n".join(rows))
    except InvalidText as error:
        raise InvalidPage(error.line)


def split_page(text):
    """Return the rows of a page that end with a line feed, and whether no characters stand behind the last one."""
    rows = text.split("\n")
    return rows[:-1], rows[-1] == ""


def head_size(rows):
    """Return the number of the rows ahead of the first one that begins with `floor` and a space."""
    for at, row in enumerate(rows):
        if row.startswith("floor "):
            return at
    return len(rows)


def read_page(text):
    """Return the live floor with this page."""
    if not isinstance(text, str):
        raise InvalidPage(0)
    rows, ends = split_page(text)
    head = head_size(rows)
    book = read_book(rows[:head])
    if head == len(rows):
        raise InvalidPage(len(rows))
    start = rows[head][len("floor "):]
    if not is_room(start, book.faces):
        raise InvalidPage(head)
    floor = Floor(book, start)
    last = None
    for at in range(head + 1, len(rows)):
        step = step_in(rows[at])
        if step is None or last is not None and step[0] <= last:
            raise InvalidPage(at)
        if not is_lowest(step[2], step[3]) or not does_step(floor, step):
            raise InvalidPage(at)
        last = step[0]
    if not ends:
        raise InvalidPage(len(rows))
    floor.forget()
    return floor


def columns(floor):
    """Return a row for each room, ascending by addresses: its address, the room and its area."""
    found = []
    for address, room in floor.rooms():
        found.append(f"{told_address(address):<8} {room} {floor.area(address).text():>9}")
    return found
