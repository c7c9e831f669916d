"""Ratios: lowest terms, signs, order and texts."""

import itertools
import random
import unittest
from fractions import Fraction

from fourwalls.ratios import Ratio
from samples import any_values, raised, told

GREAT = 999999999999999999


def is_number(value):
    return isinstance(value, int) and not isinstance(value, bool)


def terms(ratio):
    return ratio.top, ratio.bottom


def drawn_pairs():
    """Return pairs (top, bottom), small, great, below 0 and 0."""
    draw = random.Random(11)
    pairs = list(itertools.product((-6, -4, -1, 0, 1, 2, 3, 6, 12), (-6, -4, -2, -1, 1, 2, 3, 8)))
    pairs += [(draw.randint(-GREAT, GREAT), draw.choice((-1, 1)) * draw.randint(1, GREAT)) for _ in range(40)]
    return pairs + [(GREAT, GREAT), (-GREAT, GREAT), (GREAT, -1), (0, GREAT), (0, -GREAT), (10 ** 40, 10 ** 39)]


class Making(unittest.TestCase):
    def test_lowest_terms(self):
        for top, bottom in drawn_pairs():
            fraction = Fraction(top, bottom)
            ratio = Ratio(top, bottom)
            self.assertEqual(terms(ratio), (fraction.numerator, fraction.denominator))
            self.assertGreater(ratio.bottom, 0)
            self.assertEqual(ratio.text(), f"{fraction.numerator}/{fraction.denominator}")
            self.assertEqual(repr(ratio), f"Ratio({fraction.numerator}/{fraction.denominator})")

    def test_without_bottom(self):
        self.assertEqual([terms(Ratio(7)), terms(Ratio(0)), terms(Ratio(-3))], [(7, 1), (0, 1), (-3, 1)])
        self.assertEqual([Ratio(3).text(), repr(Ratio(1, 2)), Ratio(-2, 4).text()], ["3/1", "Ratio(1/2)", "-1/2"])
        self.assertEqual(terms(Ratio(bottom=4, top=6)), (3, 2))

    def test_wrong_values(self):
        for value in any_values():
            if not is_number(value):
                for pair in ((value, 1), (1, value), (value, 0), (value, value), (0, value)):
                    self.assertEqual(told(raised(Ratio, *pair)), ("InvalidRatio", {"given": pair}))
                self.assertEqual(told(raised(Ratio, value)), ("InvalidRatio", {"given": (value, 1)}))
        for top in (0, 1, -5, GREAT):
            self.assertEqual(told(raised(Ratio, top, 0)), ("InvalidRatio", {"given": (top, 0)}))
        # The numbers are told as they were passed, not in lowest terms.
        self.assertEqual(told(raised(Ratio, 4, False)), ("InvalidRatio", {"given": (4, False)}))


class Signs(unittest.TestCase):
    def test_plus_minus_times_and_order(self):
        pairs = drawn_pairs()
        draw = random.Random(12)
        chosen = [(one, other) for one in draw.sample(pairs, 40) for other in draw.sample(pairs, 12)]
        for one, other in chosen + [(pair, pair) for pair in pairs]:
            left, right = Ratio(*one), Ratio(*other)
            first, second = Fraction(*one), Fraction(*other)
            for ratio, fraction in ((left + right, first + second), (left - right, first - second),
                                    (left * right, first * second)):
                self.assertIsInstance(ratio, Ratio)
                self.assertEqual(terms(ratio), (fraction.numerator, fraction.denominator))
            self.assertIs(left.is_below(right), first < second)
            self.assertIs(left == right, first == second)
            self.assertIs(left != right, first != second)
            self.assertEqual((terms(left), terms(right)),
                             ((first.numerator, first.denominator), (second.numerator, second.denominator)))

    def test_is_below(self):
        self.assertIs(Ratio(1, 3).is_below(other=Ratio(1, 2)), True)
        self.assertIs(Ratio(1, 2).is_below(Ratio(2, 4)), False)
        self.assertIs(Ratio(-1, 2).is_below(Ratio(1, -3)), True)
        self.assertIs(Ratio(-1, 3).is_below(Ratio(-1, 2)), False)

    def test_equal_to_nothing_else(self):
        for value in any_values() + [Ratio(1, 3), (1, 2), "1/2", [1, 2], Fraction(1, 2)]:
            if not (isinstance(value, Ratio) and value.bottom == 2):
                self.assertIs(Ratio(1, 2) == value, False)
                self.assertIs(Ratio(1, 2) != value, True)
        for value in (0, 1, 2, True, False):
            self.assertIs(Ratio(int(value)) == value, False)

    def test_signs_with_other_values(self):
        for value in (1, 0, "1", None, True, (1, 2), [Ratio(1)]):
            for call in (lambda: Ratio(1, 2) + value, lambda: Ratio(1, 2) - value, lambda: Ratio(1, 2) * value,
                         lambda: value + Ratio(1, 2), lambda: value - Ratio(1, 2)):
                self.assertIsInstance(raised(call), TypeError)


if __name__ == "__main__":
    unittest.main()
