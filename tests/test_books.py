"""Books: their lines, cuts and texts."""

import itertools
import unittest

from fourwalls.books import Book
from samples import CHARACTERS, CROSS, LINES, any_values, raised, told

LINE = (".", ".", ".", ".", ".", "|ab")


def wrong_lines():
    """Return values that are no line of a book with the faces ab and the cutters AB."""
    found = [value for value in any_values() if not isinstance(value, tuple) or len(value) != 6]
    found += [(letter,) + LINE[1:] for letter in CHARACTERS if letter not in "ab."]
    found += [LINE[:4] + (letter, "") for letter in CHARACTERS if letter not in "AB."]
    found += [LINE[:5] + (letter,) for letter in CHARACTERS]
    found += [list(LINE), LINE[:5], LINE + (".",), (LINE,), "......", (1,) * 6, (True,) * 6]
    for at in range(4):
        for part in ("", "ba", "aa", "c", "ac", "A", "..", ".a", "a.", "none", "-", 1, True, None, ["a"], ("a",)):
            found.append(LINE[:at] + (part,) + LINE[at + 1:])
    for part in ("", "BA", "AA", "C", "a", "..", ".A", "none", 0, False, None, ["A"], ("A",)):
        found.append(LINE[:4] + (part,) + LINE[5:])
    for cut in ("none", ".", "|", "-", "|a", "|abb", "ab|", "+ab", "|ac", "|Ab", 0, False, None, [], ["|ab"], ("|ab",)):
        found.append(LINE[:5] + (cut,))
    return found


class Making(unittest.TestCase):
    def test_no_one_and_eight_lines(self):
        for many in (0, 1, 8):
            book = Book("ab", "AB", *[LINE] * many)
            self.assertEqual((book.faces, book.cutters, book.lines()), ("ab", "AB", [LINE] * many))
        self.assertEqual(Book.MOST, 8)

    def test_right_parts(self):
        for line in [("a", "b", "ab", ".", "A", "-ba"), ("ab", ".", "a", "b", "AB", ""), LINE]:
            self.assertEqual(Book("ab", "AB", line).lines(), [line])

    def test_faces_and_cutters_by_name(self):
        self.assertEqual(Book(cutters="AB", faces="ab"), Book("ab", "AB"))

    def test_ninth_line(self):
        self.assertEqual(told(raised(Book, "ab", "AB", *[LINE] * 9)), ("InvalidLine", {"at": 8}))
        self.assertEqual(told(raised(Book, "ab", "AB", *[LINE] * 8, None, LINE)), ("InvalidLine", {"at": 8}))
        self.assertEqual(told(raised(Book, "ab", "AB", *[LINE] * 7, None, LINE)), ("InvalidLine", {"at": 7}))

    def test_wrong_line_at_each_place(self):
        for at in range(8):
            for wrong in ("", LINE[:5], list(LINE)):
                lines = [LINE] * at + [wrong] + [LINE, wrong] * 4
                self.assertEqual(told(raised(Book, "ab", "AB", *lines)), ("InvalidLine", {"at": at}))

    def test_every_wrong_line(self):
        for wrong in wrong_lines():
            self.assertEqual(told(raised(Book, "ab", "AB", LINE, wrong, wrong)), ("InvalidLine", {"at": 1}), wrong)

    def test_faces_ahead_of_cutters_ahead_of_lines(self):
        for value in any_values():
            if value != "a":
                self.assertEqual(told(raised(Book, value, "BA", None)), ("InvalidFaces", {"given": value}))
            if value != "A":
                self.assertEqual(told(raised(Book, "ab", value, None)), ("InvalidCutters", {"given": value}))
        for value in ("", "ba", "aa", "abcdefg", "AB"):
            self.assertEqual(told(raised(Book, value, "A")), ("InvalidFaces", {"given": value}))
        for value in ("", "BA", "AA", "ABCDE", "ab"):
            self.assertEqual(told(raised(Book, "ab", value)), ("InvalidCutters", {"given": value}))


class Asking(unittest.TestCase):
    def test_example(self):
        book = Book("ab", "A", LINES[0])
        found = [book.cut("aaaa", "A"), book.parts("aaaa", "A"), book.cut("baaa", "A")]
        self.assertEqual(found, ["|ab", ["aaaa", "aaab"], ""])
        self.assertEqual(book.parts("baaa", "A"), ["baaa"])

    def test_first_line_that_fits(self):
        book = Book("ab", "AB", *LINES)
        self.assertEqual([book.line_at(room, "A") for room in ("aaaa", "abbb", "baaa", "bbbb")], [0, 0, 1, 1])
        self.assertEqual([book.line_at(room, "B") for room in ("aaaa", "bbbb")], [2, 2])
        self.assertEqual([book.cut("aaaa", "A"), book.cut("baaa", "A"), book.cut("aaaa", "B")], ["|ab", "|ba", "-ba"])

    def test_each_part_is_for_its_side(self):
        for side in range(4):
            line = (".",) * side + ("b",) + (".",) * (3 - side) + (".", "|ab")
            book = Book("ab", "A", line)
            for faces in itertools.product("ab", repeat=4):
                fit = 0 if faces[side] == "b" else None
                self.assertEqual(book.line_at("".join(faces), "A"), fit)

    def test_parts_of_several_letters(self):
        book = Book("abc", "ABC", ("ac", ".", ".", "bc", "AC", "-cb"))
        for north, west, cutter in itertools.product("abc", "abc", "ABC"):
            fit = 0 if north in "ac" and west in "bc" and cutter in "AC" else None
            self.assertEqual(book.line_at(north + "ab" + west, cutter), fit)

    def test_line_whose_cut_is_empty(self):
        book = Book("ab", "A", ("a", ".", ".", ".", ".", ""), LINE)
        self.assertEqual([book.line_at("aaaa", "A"), book.line_at("baaa", "A")], [0, 1])
        self.assertEqual([book.cut("aaaa", "A"), book.cut("baaa", "A")], ["", "|ab"])
        self.assertEqual([book.parts("aaaa", "A"), book.parts("baaa", "A")], [["aaaa"], ["baaa", "baab"]])

    def test_no_line_fits(self):
        for book in (Book("ab", "AB"), Book("ab", "AB", ("b", ".", ".", ".", ".", "|ab"))):
            self.assertIsNone(book.line_at("aaaa", "A"))
            self.assertEqual([book.cut("aaaa", "A"), book.parts("aaaa", "A")], ["", ["aaaa"]])

    def test_room_ahead_of_cutter(self):
        book = Book("ab", "AB", *LINES)
        for ask in (book.cut, book.parts, book.line_at):
            for value in any_values() + ["aaac", "aaa", "aaaaa"]:
                if value != "aaaa":
                    self.assertEqual(told(raised(ask, value, "C")), ("InvalidRoom", {"given": value}))
                if value != "A":
                    self.assertEqual(told(raised(ask, "aaaa", value)), ("InvalidCutter", {"given": value}))
            for value in ("AB", "C", "a", ""):
                self.assertEqual(told(raised(ask, cutter=value, room="aaaa")), ("InvalidCutter", {"given": value}))

    def test_idle(self):
        self.assertEqual(Book("ab", "A").idle(), [])
        self.assertEqual(Book("ab", "AB", *LINES).idle(), [])
        self.assertEqual(Book("ab", "AB", LINE, *LINES).idle(), [1, 2, 3])
        self.assertEqual(Book("ab", "AB", *LINES, LINE).idle(), [3])
        halves = [("a", ".", ".", ".", ".", ""), ("b", ".", ".", ".", "A", ""), (".", ".", ".", ".", "A", "|ab"), LINE]
        self.assertEqual(Book("ab", "AB", *halves).idle(), [2])

    def test_muted(self):
        book = Book("ab", "AB", *LINES)
        self.assertEqual(book.muted(), book)
        self.assertEqual(book.muted(1).lines(), [LINES[0], LINES[1][:5] + ("",), LINES[2]])
        self.assertEqual(book.muted(2, 0, 2).lines(), [LINES[0][:5] + ("",), LINES[1], LINES[2][:5] + ("",)])
        self.assertEqual(book.muted(0).muted(0), book.muted(0))
        self.assertEqual(book.lines(), list(LINES))
        # A muted line still fits, so the line behind it does not come in its place.
        self.assertEqual([book.muted(0).line_at("aaaa", "A"), book.muted(0).cut("aaaa", "A")], [0, ""])

    def test_muted_wrong_index(self):
        book = Book("ab", "AB", *LINES)
        for value in any_values() + [3, -3]:
            if value is True or value is False or value not in (0, 1, 2):
                self.assertEqual(told(raised(book.muted, value)), ("InvalidLine", {"at": value}))
                self.assertEqual(told(raised(book.muted, 0, value, 9)), ("InvalidLine", {"at": value}))
        self.assertEqual(told(raised(Book("ab", "A").muted, 0)), ("InvalidLine", {"at": 0}))


class Texts(unittest.TestCase):
    TEXT = "ab AB\na . . . A |ab\n. . . . A |ba\n. . . . B -ba"

    def test_text(self):
        self.assertEqual(Book("ab", "AB", *LINES).text(), self.TEXT)
        self.assertEqual(Book("abc", "A").text(), "abc A")
        self.assertEqual(Book("ab", "A", ("ab", "a", "b", ".", ".", "")).text(), "ab A\nab a b . . none")

    def test_there_and_back(self):
        full = [("ab", "a", "b", ".", "AB", ""), LINE] * 4
        for book in (Book("ab", "AB", *LINES), Book("f", "D"), Book("ab", "AB", *full)):
            self.assertEqual(Book.read(book.text()), book)
            self.assertEqual(Book.read(text=book.text()).lines(), book.lines())

    def assert_wrong(self, text, line):
        self.assertEqual(told(raised(Book.read, text)), ("InvalidText", {"line": line}), text)

    def test_no_string(self):
        for value in any_values():
            if not isinstance(value, str):
                self.assert_wrong(value, 0)
        self.assert_wrong(self.TEXT.split("\n"), 0)

    def test_wrong_first_line(self):
        for text in ("", "\n", "ab", "ab ", " A", "ab  A", "ab A ", " ab A", "ab A B", "ba A", "ab BA", "AB ab", "ab a"):
            self.assert_wrong(text, 0)
            self.assert_wrong(text + "\nwrong too", 0)

    def test_wrong_word(self):
        for at in range(1, 4):
            for row in ("", " ", ". . . . .", ". . . . A ", ". . . . A |ab ", " . . . . A |ab", ". .  . . A |ab",
                        ". . . . A |ab .", ". . . A |ab", "c . . . A |ab", ". . . ba A |ab", ". . . . C |ab",
                        ". . . . a |ab", ". . . . A |ac", ". . . . A ab|", ". . . . A .", ". . . . A None",
                        "none . . . A |ab", ". . . . none |ab", ". . . . A none none", ".\t. . . A |ab", "ab AB"):
                rows = self.TEXT.split("\n")
                rows[at] = row
                self.assert_wrong("\n".join(rows), at)
                self.assert_wrong("\n".join(rows) + "\n", at)

    def test_line_feeds(self):
        self.assert_wrong(self.TEXT + "\n", 4)
        self.assert_wrong("\n" + self.TEXT, 0)
        self.assert_wrong(self.TEXT.replace("\n", "\n\n"), 1)
        self.assert_wrong(self.TEXT.replace("|ab\n", "|ab "), 1)
        self.assert_wrong(self.TEXT.replace("AB\n", "AB "), 0)
        self.assert_wrong("ab A\n", 1)

    def test_ninth_line(self):
        text = "\n".join(["ab AB"] + [". . . . . |ab"] * 8)
        self.assertEqual(len(Book.read(text)), 8)
        self.assert_wrong(text + "\n. . . . . |ab", 9)
        self.assert_wrong(text + "\nwrong\nwrong", 9)
        self.assert_wrong(text.replace("|ab", "wrong") + "\n. . . . . |ab", 1)


class Objects(unittest.TestCase):
    def test_lists_are_new(self):
        book = Book("ab", "AB", *LINES)
        book.lines().append(LINE)
        book.parts("aaaa", "A").clear()
        book.idle().append(1)
        self.assertEqual(book.lines(), list(LINES))
        self.assertEqual([book.parts("aaaa", "A"), book.idle()], [["aaaa", "aaab"], []])

    def test_equal(self):
        self.assertTrue(Book("ab", "AB", *LINES) == Book("ab", "AB", *LINES))
        self.assertFalse(Book("ab", "AB", *LINES) != Book("ab", "AB", *LINES))
        unlike = [Book("abc", "AB", *LINES), Book("ab", "ABC", *LINES), Book("ab", "AB", *LINES[:2]),
                  Book("ab", "AB", LINES[1], LINES[0], LINES[2]), Book("ab", "AB", *LINES).muted(0), Book("ab", "AB")]
        for other in unlike:
            self.assertFalse(Book("ab", "AB", *LINES) == other)
            self.assertTrue(Book("ab", "AB", *LINES) != other)

    def test_equals_nothing_else(self):
        for value in any_values():
            self.assertEqual(CROSS == value, False)
        self.assertEqual(CROSS == CROSS.text(), False)
        self.assertEqual(CROSS == CROSS.lines(), False)

    def test_length_truth_and_repr(self):
        for many in range(9):
            book = Book("ab", "AB", *[LINE] * many)
            self.assertEqual((len(book), bool(book), repr(book)), (many, True, f"Book({many} lines)"))


if __name__ == "__main__":
    unittest.main()
