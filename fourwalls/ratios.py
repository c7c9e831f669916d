"""Ratios: fractions in lowest terms."""

from math import gcd

from fourwalls.errors import InvalidRatio
from fourwalls.faces import is_integer


class Ratio:
    """A fraction in lowest terms with a bottom above 0; a ratio never changes."""

    def __init__(self, top, bottom=1):
        if not is_integer(top) or not is_integer(bottom) or bottom == 0:
            raise InvalidRatio((top, bottom))
        shared = gcd(top, bottom)
        if bottom < 0:
            shared = -shared
        self.top = top // shared
        self.bottom = bottom // shared

    def is_below(self, other):
        """Tell whether this ratio is less than another one."""
        return self.top * other.bottom < other.top * self.bottom

    def text(self):
        """Return the ratio as `top/bottom`."""
        return f"{self.top}/{self.bottom}"

    def __add__(self, other):
        if not isinstance(other, Ratio):
            return NotImplemented
        return Ratio(self.top * other.bottom + other.top * self.bottom, self.bottom * other.bottom)

    def __sub__(self, other):
        if not isinstance(other, Ratio):
            return NotImplemented
        return Ratio(self.top * other.bottom - other.top * self.bottom, self.bottom * other.bottom)

    def __mul__(self, other):
        if not isinstance(other, Ratio):
            return NotImplemented
        return Ratio(self.top * other.top, self.bottom * other.bottom)

    def __eq__(self, other):
        if not isinstance(other, Ratio):
            return False
        return self.top == other.top and self.bottom == other.bottom

    def __repr__(self):
        return f"Ratio({self.top}/{self.bottom})"
