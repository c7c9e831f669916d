"""The forms of faces.py, and the parts of a cut."""

import unittest

from fourwalls.faces import (
    MOST_TEXT, is_address, is_cut, is_cutters, is_faces, is_number, is_room, is_string, parts_of,
)
from samples import CHARACTERS, any_values


def accepted(form, *more):
    """Return those of the sample values that a form takes; each answer has to be True or False."""
    answers = [(value, form(value, *more)) for value in any_values()]
    assert all(isinstance(answer, bool) for _, answer in answers)
    return [value for value, answer in answers if answer]


class Forms(unittest.TestCase):
    def test_most_text(self):
        self.assertEqual(MOST_TEXT, 16)

    def test_faces(self):
        for value in ("a", "z", "ab", "az", "abcdef", "uvwxyz"):
            self.assertIs(is_faces(value), True, value)
        for value in ("", "abcdefg", "ba", "aa", "abb", "aab", "A", "aB", "a b", "a1", " a", "a\n", ".", "`a", "z{"):
            self.assertIs(is_faces(value), False, value)
        self.assertEqual(accepted(is_faces), ["a"])

    def test_cutters(self):
        for value in ("A", "Z", "AB", "AZ", "ABCD", "WXYZ"):
            self.assertIs(is_cutters(value), True, value)
        for value in ("", "ABCDE", "BA", "AA", "ABB", "a", "Ab", "A B", "A1", ".", "A\n", "@A", "Z["):
            self.assertIs(is_cutters(value), False, value)
        self.assertEqual(accepted(is_cutters), ["A"])

    def test_number(self):
        for value in (-3, -1, 0, 5):
            self.assertIs(is_number(value, -3, 5), True, value)
        for value in (-4, 6, 999999999999999999, True, False, None, "1", [1], (1,)):
            self.assertIs(is_number(value, -3, 5), False, value)
        self.assertIs(is_number(1, 1, 1), True)
        self.assertIs(is_number(1, 2, 1), False)
        self.assertIs(is_number(10 ** 40, 0, 10 ** 40), True)
        self.assertEqual([repr(value) for value in accepted(is_number, 0, 2)], ["0", "1", "2"])

    def test_address(self):
        for value in ("", "0", "1", "0110", "01" * 3000):
            self.assertIs(is_address(value), True)
        for value in (".", "2", "01 ", "a", "0\n", "01" * 3000 + "2"):
            self.assertIs(is_address(value), False)
        self.assertEqual(accepted(is_address), [""])

    def test_string(self):
        for value in ("", "a", "b", "baab", "ab" * 5000):
            self.assertIs(is_string(value, "ab"), True)
        for value in ("c", "aca", "A", "a b", "ab\n", "ab" * 5000 + "c"):
            self.assertIs(is_string(value, "ab"), False)
        self.assertIs(is_string("c", "ac"), True)
        self.assertIs(is_string("b", "ac"), False)
        self.assertEqual(accepted(is_string, "ab"), ["", "a", "aaaa"])

    def test_room(self):
        for value in ("aaaa", "abab", "bbbb"):
            self.assertIs(is_room(value, "ab"), True)
        for value in ("", "aaa", "aaaaa", "aaac", "aaaA", "aaa\n", "caaa"):
            self.assertIs(is_room(value, "ab"), False)
        self.assertEqual(accepted(is_room, "ab"), ["aaaa"])
        self.assertEqual(accepted(is_room, "b"), [])

    def test_cut(self):
        for value in ("|ab", "-ba", "|aa", "-bb"):
            self.assertIs(is_cut(value, "ab"), True)
        for value in ("", "|", "|a", "|abb", "ab|", "+ab", ".ab", "|ac", "|ca", "-aB", "||a", "|-ab", "|-b", "none"):
            self.assertIs(is_cut(value, "ab"), False)
        self.assertEqual(accepted(is_cut, "ab"), [])


    def test_every_character(self):
        for letter in CHARACTERS:
            self.assertIs(is_faces(letter), letter in "abcdefghijklmnopqrstuvwxyz")
            self.assertIs(is_cutters(letter), letter in "ABCDEFGHIJKLMNOPQRSTUVWXYZ")
            self.assertIs(is_address(letter), letter in "01")
            self.assertIs(is_string(letter, "abd"), letter in "abd")
            self.assertIs(is_room("aba" + letter, "abd"), letter in "abd")
            self.assertIs(is_cut(letter + "ab", "abd"), letter in "|-")
            self.assertIs(is_cut("|" + letter + "b", "abd"), letter in "abd")
            self.assertIs(is_cut("-a" + letter, "abd"), letter in "abd")


class Parts(unittest.TestCase):
    def test_both_signs(self):
        self.assertEqual(parts_of("nesw", "|xy"), ["nxsw", "nesy"])
        self.assertEqual(parts_of("nesw", "-xy"), ["nexw", "yesw"])

    def test_empty_cut(self):
        self.assertEqual(parts_of("nesw", ""), ["nesw"])

    def test_lists_are_new(self):
        parts_of("aaaa", "|ab").append("bbbb")
        self.assertEqual(parts_of("aaaa", "|ab"), ["aaaa", "aaab"])

    def test_by_name(self):
        self.assertEqual(parts_of(cut="-ab", room="aaaa"), ["aaaa", "baaa"])
        self.assertTrue(is_number(value=1, least=0, most=2) and is_string(value="a", faces="a"))
        self.assertTrue(is_room(value="aaaa", faces="a") and is_cut(value="|aa", faces="a"))
        self.assertTrue(is_faces(value="a") and is_cutters(value="A") and is_address(value=""))


if __name__ == "__main__":
    unittest.main()
