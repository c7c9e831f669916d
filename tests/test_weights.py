"""Weights: their making, their numbers, their signs and what a room weighs."""

import unittest

from fourwalls.books import Book
from fourwalls.strands import Strand
from fourwalls.weights import Weights
from samples import CHARACTERS, CROSS, any_values, raised, told

GREAT = 999999999999999999


def is_number(value):
    return isinstance(value, int) and not isinstance(value, bool)


def numbers(weights):
    """Return all that weights have: their faces, each, and the number of each face."""
    return weights.faces, weights.each, [weights[face] for face in weights.faces]


def assign(weights, face, number):
    weights[face] = number


class Making(unittest.TestCase):
    def test_numbers(self):
        self.assertEqual(numbers(Weights("abc")), ("abc", 0, [0, 0, 0]))
        self.assertEqual(numbers(Weights("abc", each=-3)), ("abc", -3, [0, 0, 0]))
        self.assertEqual(numbers(Weights("abc", b=5, each=1)), ("abc", 1, [0, 5, 0]))
        self.assertEqual(numbers(Weights("bxz", z=-GREAT, x=GREAT)), ("bxz", 0, [0, GREAT, -GREAT]))
        self.assertEqual(numbers(Weights(faces="ab", a=2)), ("ab", 0, [2, 0]))
        self.assertEqual(numbers(Weights(a=2, faces="ab", each=4, b=10 ** 40)), ("ab", 4, [2, 10 ** 40]))

    def test_each_by_name_alone(self):
        self.assertIsInstance(raised(Weights, "ab", 1), TypeError)

    def test_faces(self):
        for value in any_values() + ["ba", "aa", "abcdefg", "aB"]:
            if value != "a":
                error = raised(Weights, value, each=None, q=None, a=True)
                self.assertEqual(told(error), ("InvalidFaces", {"given": value}))
        self.assertEqual(numbers(Weights("uvwxyz", z=1)), ("uvwxyz", 0, [0, 0, 0, 0, 0, 1]))

    def test_each(self):
        for value in any_values():
            if is_number(value):
                self.assertEqual(Weights("ab", each=value).each, value)
            else:
                error = raised(Weights, "ab", each=value, q=None, a=None)
                self.assertEqual(told(error), ("InvalidNumber", {"given": value}))

    def test_first_name_that_is_no_face(self):
        for name in ("c", "ab", "A", "aa", "x1", "given", "numbers", "other"):
            given = {"a": None, name: 1, "z": 2}
            self.assertEqual(told(raised(Weights, "ab", **given)), ("InvalidFace", {"given": name}))
        self.assertEqual(told(raised(Weights, "ab", z=1, c=1)), ("InvalidFace", {"given": "z"}))
        self.assertEqual(told(raised(Weights, "ab", **{"": 1})), ("InvalidFace", {"given": ""}))

    def test_first_value_that_is_no_number(self):
        for value in any_values():
            if not is_number(value):
                for given in ({"a": value}, {"b": 5, "a": value, "c": None}, {"c": value, "a": "no"}):
                    self.assertEqual(told(raised(Weights, "abc", **given)), ("InvalidNumber", {"given": value}))

    def test_each_is_read_alone(self):
        weights = Weights("ab", each=3)
        self.assertIsInstance(raised(setattr, weights, "each", 4), AttributeError)
        self.assertEqual(weights.each, 3)


class Items(unittest.TestCase):
    def test_change(self):
        weights = Weights("ab", each=1, a=2)
        weights["a"] = -7
        self.assertEqual(numbers(weights), ("ab", 1, [-7, 0]))
        self.assertIs(weights.put("b", GREAT), None)
        weights["a"] += 3
        self.assertEqual(numbers(weights), ("ab", 1, [-4, GREAT]))
        weights.put(number=5, face="a")
        self.assertEqual(weights["a"], 5)

    def test_no_face(self):
        weights = Weights("ab", each=1, a=2, b=3)
        for value in any_values() + CHARACTERS + ["ab", "aa", "each"]:
            if value not in ("a", "b"):
                calls = [lambda: weights[value], lambda: assign(weights, value, None), lambda: weights.put(value, None)]
                for call in calls:
                    self.assertEqual(told(raised(call)), ("InvalidFace", {"given": value}))
        self.assertEqual(numbers(weights), ("ab", 1, [2, 3]))

    def test_no_number(self):
        weights = Weights("ab", each=1, a=2, b=3)
        for value in any_values():
            if not is_number(value):
                for call in (lambda: assign(weights, "b", value), lambda: weights.put("b", value)):
                    self.assertEqual(told(raised(call)), ("InvalidNumber", {"given": value}))
        self.assertEqual(numbers(weights), ("ab", 1, [2, 3]))

    def test_not_iterated(self):
        self.assertIsInstance(raised(list, Weights("ab")), TypeError)


class Rooms(unittest.TestCase):
    def test_weight_of_a_room(self):
        weights = Weights("abc", each=10, a=1, b=-5, c=GREAT)
        self.assertEqual([weights("aaaa"), weights("abbb"), weights("cacc")], [14, -4, 11 + 3 * GREAT])
        self.assertEqual(weights(room="bacb"), 10 + 1 - 10 + GREAT)
        weights["a"] = 0
        self.assertEqual(weights("aaaa"), 10)

    def test_no_room(self):
        weights = Weights("ab", each=1)
        for value in any_values() + ["aaa", "aaaaa", "aaac", "", "AAAA", "a a a"]:
            if value != "aaaa":
                self.assertEqual(told(raised(weights, value)), ("InvalidString", {"given": value}))


class Signs(unittest.TestCase):
    def setUp(self):
        self.one = Weights("ab", each=1, a=2, b=-3)
        self.other = Weights("ab", each=10, a=-20, b=GREAT)

    def tearDown(self):
        self.assertEqual(numbers(self.other), ("ab", 10, [-20, GREAT]))

    def test_plus_and_minus(self):
        self.assertEqual(numbers(self.one + self.other), ("ab", 11, [-18, GREAT - 3]))
        self.assertEqual(numbers(self.one - self.other), ("ab", -9, [22, -GREAT - 3]))
        self.assertEqual(numbers(self.other - self.other), ("ab", 0, [0, 0]))
        self.assertEqual(numbers(self.one + self.one), ("ab", 2, [4, -6]))
        self.assertEqual(numbers(self.one), ("ab", 1, [2, -3]))

    def test_negative_and_times(self):
        self.assertEqual(numbers(-self.one), ("ab", -1, [-2, 3]))
        for number in (0, 1, -1, 7, GREAT, -GREAT):
            expected = ("ab", number, [2 * number, -3 * number])
            self.assertEqual(numbers(number * self.one), expected)
            self.assertEqual(numbers(self.one * number), expected)
        self.assertEqual(numbers(self.one), ("ab", 1, [2, -3]))
        self.assertEqual(numbers(GREAT * (GREAT * self.other)), ("ab", 10 * GREAT ** 2, [-20 * GREAT ** 2, GREAT ** 3]))

    def test_times_no_number(self):
        for value in ("a", None, True, [1], CROSS, self.other):
            self.assertIsInstance(raised(lambda: value * self.one), TypeError)
            self.assertIsInstance(raised(lambda: self.one * value), TypeError)

    def test_results_share_nothing(self):
        results = [self.one + self.other, self.one - self.other, -self.one, 1 * self.one, self.one * 1, self.one.copy()]
        told_before = [numbers(result) for result in results]
        self.one["a"] = 99
        self.assertEqual([numbers(result) for result in results], told_before)
        for result in results:
            result["b"] = 77
        self.assertEqual(numbers(self.one), ("ab", 1, [99, -3]))

    def test_plus_in_place(self):
        kept = self.one
        self.one += self.other
        self.assertIs(self.one, kept)
        self.assertEqual(numbers(kept), ("ab", 11, [-18, GREAT - 3]))
        self.one += self.one
        self.assertIs(self.one, kept)
        self.assertEqual(numbers(kept), ("ab", 22, [-36, 2 * GREAT - 6]))
        kept["a"] = 5
        self.assertEqual(numbers(self.other), ("ab", 10, [-20, GREAT]))

    def test_minus_in_place_gives_new_weights(self):
        kept = self.one
        self.one -= self.other
        self.assertEqual(numbers(self.one), ("ab", -9, [22, -GREAT - 3]))
        self.assertEqual(numbers(kept), ("ab", 1, [2, -3]))

    def add_in_place(self, value):
        self.one += value

    def test_other_faces(self):
        unlike = [Weights("a"), Weights("abc"), Weights("ac"), Weights("xy")]
        for value in any_values() + unlike:
            for call in (lambda: self.one + value, lambda: self.one - value, lambda: self.add_in_place(value)):
                self.assertEqual(told(raised(call)), ("OtherFaces", {}))
        self.assertEqual(numbers(self.one), ("ab", 1, [2, -3]))

    def test_equal(self):
        self.assertTrue(self.one == Weights("ab", b=-3, a=2, each=1))
        self.assertFalse(self.one != Weights("ab", b=-3, a=2, each=1))
        unlike = [self.other, Weights("ab", each=1, a=2), Weights("ab", a=2, b=-3), Weights("abc", each=1, a=2, b=-3)]
        for value in any_values() + unlike + [Weights("cd", each=1, c=2, d=-3)]:
            self.assertIs(self.one == value, False)
            self.assertIs(self.one != value, True)
        self.assertTrue(Weights("ab") == Weights("ab", a=0))
        changed = self.one.copy()
        changed["b"] = 0
        self.assertFalse(changed == self.one)
        changed["b"] = -3
        self.assertTrue(changed == self.one)

    def test_bool(self):
        self.assertIs(bool(Weights("ab")), False)
        self.assertIs(bool(Weights("ab", each=-1)), True)
        self.assertIs(bool(Weights("ab", b=1)), True)
        self.assertIs(bool(Weights("ab", a=-1, b=1)), True)
        self.assertIs(bool(self.one - self.one), False)
        self.assertIs(bool(0 * self.one), False)

    def test_repr(self):
        self.assertEqual(repr(Weights("ab", each=1, a=3)), "Weights(each 1, a 3, b 0)")
        self.assertEqual(repr(Weights("z")), "Weights(each 0, z 0)")
        self.assertEqual(repr(Weights("abcdef", f=-GREAT)), f"Weights(each 0, a 0, b 0, c 0, d 0, e 0, f {-GREAT})")

    def test_copy(self):
        copy = self.one.copy()
        self.assertIsInstance(copy, Weights)
        self.assertIsNot(copy, self.one)
        copy += self.other
        self.assertEqual(numbers(copy), ("ab", 11, [-18, GREAT - 3]))
        self.assertEqual(numbers(self.one), ("ab", 1, [2, -3]))


class Strands(unittest.TestCase):
    def test_weight_of_a_row(self):
        weights = Weights("ab", each=1, a=10, b=100)
        strand = Strand(CROSS, "aaaa", "N", [("aaab", "B", None, "-"), ("aaaa", "A", None, 0)], 1)
        self.assertEqual(strand.text(), "aaaaaabb")
        self.assertEqual(strand.weight(weights), 41 + 221)
        self.assertEqual(strand.weight(weights=-weights), -262)
        self.assertEqual(Strand(CROSS, "aabb", "N", [], None).weight(weights), 221)

    def test_weight_of_a_very_long_row(self):
        book = Book("ab", "A", (".", ".", ".", ".", "A", "|ab"))
        # The first room of the row is aaaa, and each of the others aaab.
        shared = [("aaab", "A", None, None)] + [("aaab", "A", at, at) for at in range(26)]
        strand = Strand(book, "aaaa", "N", shared + [("aaaa", "A", None, 26)], 27)
        many = 2 ** 27
        self.assertEqual(strand.many(), many + 1)
        self.assertEqual(strand.weight(Weights("ab", each=-5, a=GREAT, b=7)), 4 * GREAT - 5 + many * (3 * GREAT + 2))

    def test_lists_and_weights_that_are_given_are_copied(self):
        weights = Weights("ab", each=1)
        strand = Strand(CROSS, weights, (weights,), [(weights, [weights])], weights)
        weights["a"] = 5
        old = Weights("ab", each=1)
        self.assertEqual((strand.start, strand.view, strand.lines(), strand.top), (old, (old,), [(old, [old])], old))
        strand.lines()[0][0]["a"] = 7
        strand.lines()[0][1][0]["a"] = 7
        self.assertEqual(strand.lines(), [(old, [old])])


if __name__ == "__main__":
    unittest.main()
