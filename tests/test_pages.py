"""write_page, read_page and columns."""

import random
import unittest
from math import gcd

from fourwalls.books import Book
from fourwalls.live import Floor
from fourwalls.pages import columns, read_page, write_page
from floors import Model, draw_turn, outcome, seen_of
from samples import CHARACTERS, CROSS, any_values, draw_question, draw_room, laid_out, raised, told

ANY = (".", ".", ".", ".")
THREE = Book("ab", "ABC", *CROSS.lines())
PAGE = "ab ABC\n. . . . A |ab\n. . . . B -ba\nfloor aaaa\ncut . A 1 2\ncut 0 B 2 5\ncut 1 A 1 3\ncut 10 B 7 9\n"


def wrong_line(text):
    """Return the index of the first wrong line of a page, or None, straight from [19]."""
    if not isinstance(text, str):
        return 0
    lines = text.split("\n")
    rest = lines.pop()
    heads = [at for at, line in enumerate(lines) if line.startswith("floor ")]
    head = heads[0] if heads else len(lines)
    for at in range(head):
        words = lines[at].split(" ")
        if at == 0:
            if len(words) != 2 or not is_letters(words[0], 6, str.islower) or not is_letters(words[1], 4, str.isupper):
                return 0
            faces, cutters = words
        elif at > 8 or not is_book_line(words, faces, cutters):
            return at
    if not heads or head == 0:
        return head
    start = lines[head][6:]
    if len(start) != 4 or any(face not in faces for face in start):
        return head
    rows = [tuple(line.split(" ")) for line in lines[1:head]]
    book = Book(faces, cutters, *[row[:5] + ("" if row[5] == "none" else row[5],) for row in rows])
    rooms = {"": start}
    last = None
    for at in range(head + 1, len(lines)):
        words = lines[at].split(" ")
        if len(words) != 5 or words[0] != "cut" or words[1] == "":
            return at
        address = "" if words[1] == "." else words[1]
        if address not in rooms or last is not None and not last < address or words[2] not in tuple(cutters):
            return at
        for word in words[3:]:
            if not 1 <= len(word) <= 18 or any(digit not in "0123456789" for digit in word) or word != str(int(word)):
                return at
        top, bottom = int(words[3]), int(words[4])
        if not 0 < top < bottom or gcd(top, bottom) != 1 or not book.cut(rooms[address], words[2]) or len(rooms) >= 60:
            return at
        parts = book.parts(rooms.pop(address), words[2])
        rooms[address + "0"], rooms[address + "1"] = parts
        last = address
    return len(lines) if rest else None


def is_letters(word, most, kind):
    return 1 <= len(word) <= most and word.isalpha() and kind(word) and word.isascii() and list(word) == sorted(set(word))


def is_book_line(words, faces, cutters):
    if len(words) != 6:
        return False
    for word, letters in zip(words, [faces] * 4 + [cutters]):
        if word != "." and (not word or list(word) != sorted(set(word)) or set(word) - set(letters)):
            return False
    cut = words[5]
    return cut == "none" or len(cut) == 3 and cut[0] in "|-" and not set(cut[1:]) - set(faces)


def grown_floor(draw, book, start, rooms):
    """Return a floor with up to so many rooms, made by cuts in any order."""
    floor = Floor(book, start, limit=99)
    for _ in range(rooms * 4):
        if len(floor) < rooms:
            address, _ = draw.choice(floor.rooms())
            bottom = draw.choice((2, 3, 7, 100, 10 ** 17))
            floor.cut(address, draw.choice(book.cutters), draw.randint(1, bottom - 1), bottom)
    return floor


class Pages(unittest.TestCase):
    def check(self, text):
        """Compare reading a text with [19]; return the index of the wrong line or None."""
        line = wrong_line(text)
        if line is None:
            self.assertEqual(write_page(read_page(text)), text)
        else:
            self.assertEqual(told(raised(read_page, text)), ("InvalidPage", {"line": line}), repr(text))
        return line

    def test_example(self):
        floor = Floor(Book("ab", "A", (*ANY, "A", "|ab")), "aaaa")
        floor.cut("", "A")
        self.assertEqual(write_page(floor), "ab A\n. . . . A |ab\nfloor aaaa\ncut . A 1 2\n")
        self.assertEqual(write_page(floor=Floor(Book("ab", "A", ("a", "ab", ".", "b", ".", "")), "abba")),
                         "ab A\na ab . b . none\nfloor abba\n")
        self.assertEqual(write_page(Floor(Book("a", "Z"), "aaaa")), "a Z\nfloor aaaa\n")

    def test_by_hand(self):
        floor = read_page(PAGE)
        self.assertIsInstance(floor, Floor)
        self.assertEqual((floor.book, floor.start, floor.limit, floor.busy, floor.history()), (THREE, "aaaa", 60, False, (0, 0)))
        self.assertEqual(floor.cuts(), [("", "A", 1, 2), ("0", "B", 2, 5), ("1", "A", 1, 3), ("10", "B", 7, 9)])
        self.assertEqual((write_page(floor), read_page(text=PAGE)), (PAGE, floor))
        for call in (floor.undo, floor.redo):
            self.assertEqual(told(raised(call)), ("NothingLeft", {}))
        floor.cut("11", "A")
        self.assertEqual(floor.history(), (1, 0))

    def test_there_and_back(self):
        draw = random.Random(801)
        sizes = set()
        for at in range(120):
            book, start, _ = draw_question(draw, 6)
            if at % 2:
                book, start = THREE, draw_room(draw, "ab")
            floor = grown_floor(draw, book, start, draw.choice((1, 2, 5, 12, 40, 60)))
            sizes.add(len(floor))
            page = write_page(floor)
            again = read_page(page)
            self.assertEqual(again, floor)
            self.assertEqual((again.cuts(), again.limit, again.history()), (floor.plain(), 60, (0, 0)))
            self.assertEqual((again.book, again.start, write_page(again)), (book, start, page))
            self.assertEqual(self.check(page), None)
        self.assertTrue({1, 2, 5, 12, 40, 60} <= sizes)

    def test_behind_undone_steps(self):
        draw = random.Random(802)
        for _ in range(40):
            book, start, _ = draw_question(draw, 3)
            floor, model = Floor(book, start), Model(book, start)
            for _ in range(15):
                name, given = draw_turn(draw, model)
                getattr(model, name)(*given)
                outcome(getattr(floor, name), *given)
            before = seen_of(floor)
            again = read_page(write_page(floor))
            self.assertEqual((again == floor, again.history(), again.limit), (True, (0, 0), 60))
            self.assertEqual(seen_of(floor), before)

    def test_sixty_rooms(self):
        draw = random.Random(803)
        for many in (59, 60, 61, 62, 80):
            floor = grown_floor(draw, THREE, "aaaa", many)
            self.assertEqual(len(floor), many)
            self.assertEqual(self.check(write_page(floor)), None if many <= 60 else 3 + 60)
        deep = Floor(THREE, "aaaa", limit=99)
        for at in range(60):
            deep.cut("1" * at, "A")
        self.assertEqual(self.check(write_page(deep)), 3 + 60)
        # A wrong line ahead of the one that makes too many rooms.
        page = write_page(deep).split("\n")
        page[40] = page[40] + " "
        self.assertEqual(self.check("\n".join(page)), 40)

    def test_one_sign_changed_put_in_or_left_out(self):
        wrong = set()
        for at in range(len(PAGE)):
            wrong.add(self.check(PAGE[:at] + PAGE[at + 1:]))
            for sign in CHARACTERS if at < 40 else "0127 .A|-ab\nZx":
                wrong.add(self.check(PAGE[:at] + sign + PAGE[at + 1:]))
                wrong.add(self.check(PAGE[:at] + sign + PAGE[at:]))
        for sign in CHARACTERS:
            self.check(PAGE + sign)
        self.assertEqual(wrong, {None, *range(9)})

    def test_one_word_changed_put_in_or_left_out(self):
        lines = PAGE.split("\n")
        words = ["", ".", "a", "b", "ab", "ba", "A", "B", "C", "AB", "ABC", "floor", "cut", "none", "aaaa", "aaac", "|ab", "-ba", "|a",
                 "0", "1", "00", "10", "01", "2", "3", "12", "100", "-1", "1.0", "x", "18", "000000000000000001",
                 "999999999999999999", "1000000000000000000", "0.", "+1", "1_0"]
        for at, line in enumerate(lines[:-1]):
            parts = line.split(" ")
            for place in range(len(parts) + 1):
                for word in words:
                    bent = [parts[:place] + [word] + parts[place:], parts[:place] + [word] + parts[place + 1:]]
                    for row in bent + [parts[:place] + parts[place + 1:]]:
                        self.check("\n".join(lines[:at] + [" ".join(row)] + lines[at + 1:]))

    def test_one_line_changed_put_in_left_out_or_moved(self):
        lines = PAGE.split("\n")[:-1]
        more = lines + ["", " ", ".", "floor", "floor ", "floor bbbb", "floor  aaaa", "floor aaac", "floor aaaa ", "Floor aaaa", "cut",
                        "cut . A 1 2", "cut 00 A 1 2", "cut 11 C 1 2", "cut 11 A 1 2", "cut 0 A 1 2", "cut 2 A 1 2", "ab A",
                        "a A", "abc ABC", ". . . . . none", ". . . . . ", ". . . . .", ". . . . C |bb", "a b a b C none"]
        for at in range(len(lines) + 1):
            self.check("\n".join(lines[:at] + lines[at + 1:]) + "\n")
            self.check("\n".join(lines[:at]) + "\n")
            self.check("\n".join(lines[:at]))
            for line in more:
                self.check("\n".join(lines[:at] + [line] + lines[at:]) + "\n")
                self.check("\n".join(lines[:at] + [line] + lines[at + 1:]) + "\n")
                self.check("\n".join(lines[:at] + [line] + lines[at:]))

    def test_faces_cutters_and_lines(self):
        for head, line in (("abcdef A", None), ("abcdefg A", 0), ("a ABCD", None), ("a ABCDE", 0), ("ba A", 0), ("a BA", 0),
                           ("aa A", 0), ("a a", 0), ("A A", 0), ("a  A", 0), (" a A", 0), ("a A ", 0), ("a", 0), ("", 0), ("a\tA", 0)):
            self.assertEqual(self.check(f"{head}\nfloor aaaa\n"), line)
        for many in range(11):
            rows = "".join(["a . . . A none\n"] * many)
            self.assertEqual(self.check(f"a A\n{rows}floor aaaa\n"), None if many <= 8 else 9)
            self.assertEqual(self.check(f"a A\n{rows}"), min(many + 1, 9))
            self.assertEqual(self.check(f"a A\n{rows}floor aaab\n"), min(many + 1, 9))

    def test_numbers(self):
        for top, bottom, right in (
            ("1", "2", True), ("01", "2", False), ("1", "02", False), ("0", "1", False), ("1", "1", False), ("2", "1", False),
            ("2", "4", False), ("3", "6", False), ("999999999999999998", "999999999999999999", True), ("00", "1", False),
            ("1", "1000000000000000000", False), ("1", "9" * 19, False), ("1", "0" * 18, False), ("1" * 18, "9" * 18, False),
            ("1", "9" * 18, True), ("-1", "2", False), ("1", "-2", False), ("+1", "2", False), ("1.", "2", False), ("", "2", False),
            ("1", "", False), ("1", "0", False), ("0", "0", False), ("one", "2", False), ("1", "1" * 19, False),
        ):
            self.assertEqual(self.check(f"a A\n. . . . A |aa\nfloor aaaa\ncut . A {top} {bottom}\n"), None if right else 3)

    def test_addresses_and_cutters(self):
        head = PAGE[:PAGE.index("cut")]
        for rows, line in (
            (["cut . A 1 2", "cut . A 1 2"], 5), (["cut 0 A 1 2"], 4), (["cut . A 1 2", "cut 00 A 1 2"], 5),
            (["cut . A 1 2", "cut 1 A 1 2", "cut 0 A 1 2"], 6), (["cut . A 1 2", "cut 0 A 1 2", "cut 0 A 1 2"], 6),
            (["cut . C 1 2"], 4), (["cut . A 1 2", "cut 0 C 1 2"], 5), (["cut . D 1 2"], 4), (["cut . AB 1 2"], 4), (["cut . a 1 2"], 4),
            (["cut . A 1 2", "cut 0 A 1 2", "cut 01 B 1 2", "cut 1 B 1 2"], None), (["cut .. A 1 2"], 4), (["cut  A 1 2"], 4),
            (["cut . A 1 2", "cut 0. A 1 2"], 5), (["cut . A 1 2", "cut .0 A 1 2"], 5), (["cut 2 A 1 2"], 4),
            (["cut . A 1 2", "cut 1 A 1 2", "cut 01 A 1 2"], 6), (["cut . A 1 2", "cut 0 A 1 2", "cut . A 1 2"], 6),
        ):
            self.assertEqual(self.check(head + "".join([row + "\n" for row in rows])), line, rows)

    def test_what_is_missing_or_stands_behind(self):
        for text, line in (("", 0), ("\n", 0), ("a A", 0), ("a A\n", 1), ("a A\n. . . . A |aa\n", 2), ("a A\nfloor aaaa", 1),
                           ("a A\nfloor aaaa\n", None), ("a A\nfloor aaaa\n ", 2), ("a A\nfloor aaaa\n\n", 2), ("floor aaaa\n", 0),
                           ("floor aaaa", 0), ("a A\nfloor aaaa\ncut . A 1 2", 2), ("a A\nfloor aaaa\ncut . A 1 2\n", 2),
                           ("a A\nfloor\n", 1), ("a A\nfloor \n", 1), ("a A\nfloor aaa\n", 1), ("a A\nfloor aaaa a\n", 1),
                           ("a B A\nx", 0), ("a A\nx\ny", 1), ("a A\n. . . . A |aa\ny", 2), (PAGE + "cut", 8), (PAGE[:-1], 7)):
            self.assertEqual(self.check(text), line, repr(text))

    def test_values_that_are_no_strings(self):
        for value in any_values():
            if not isinstance(value, str):
                self.assertEqual(told(raised(read_page, value)), ("InvalidPage", {"line": 0}))
            else:
                self.check(value)


class Columns(unittest.TestCase):
    def test_start_alone(self):
        self.assertEqual(columns(Floor(CROSS, "abab")), [".        abab       1/1"])
        self.assertEqual(columns(floor=Floor(CROSS, "aaaa")), [".        aaaa       1/1"])

    def test_by_hand(self):
        floor = Floor(CROSS, "aaaa")
        floor.cut("", "A", 1, 3)
        floor.cut("1", "B", 5, 12)
        self.assertEqual(columns(floor), ["0        aaaa       1/3", "10       aabb      5/18", "11       aaab      7/18"])

    def test_long_addresses_and_areas(self):
        draw = random.Random(804)
        long = {"address": 0, "area": 0}
        for _ in range(30):
            floor = Floor(CROSS, "aaaa")
            for _ in range(20):
                address = draw.choice((floor.rooms()[-1][0], draw.choice(floor.rooms())[0]))
                bottom = draw.choice((2, 10, 999, 10 ** 6))
                floor.cut(address, draw.choice("AB"), draw.randint(1, bottom - 1), bottom)
            rows = columns(floor)
            laid = laid_out(CROSS, "aaaa", floor.cuts())
            for row, (address, room) in zip(rows, floor.rooms()):
                _, west, north, east, south = laid[address]
                area = (east - west) * (south - north)
                text = f"{area.numerator}/{area.denominator}"
                self.assertEqual(row, (address + " " * 8)[:max(8, len(address))] + " " + room + " " + " " * (9 - len(text)) + text)
                long["address"] += len(address) > 8
                long["area"] += len(text) > 9
            self.assertEqual(len(rows), len(floor))
            rows.clear()
            self.assertEqual(len(columns(floor)), len(floor))
        self.assertGreater(min(long.values()), 20)


if __name__ == "__main__":
    unittest.main()
