"""Exact fractions."""

from math import gcd

from lettertrees.errors import BadOver


class Ratio:
    """A fraction of two integers, in lowest terms."""

    def __init__(self, number, over=1):
        if over == 0:
            raise BadOver()
        common = gcd(number, over) if over > 0 else -gcd(number, over)
        self.number = number // common
        self.over = over // common

    def __eq__(self, other):
        return isinstance(other, Ratio) and self.number == other.number and self.over == other.over

    def __str__(self):
        if self.over == 1:
            return str(self.number)
        return f"{self.number}/{self.over}"

    def __neg__(self):
        return Ratio(-self.number, self.over)

    def __abs__(self):
        return Ratio(abs(self.number), self.over)

    def __add__(self, other):
        told = as_ratio(other)
        if told is None:
            return NotImplemented
        return Ratio(self.number * told.over + told.number * self.over, self.over * told.over)

    def __radd__(self, other):
        return self + other

    def __sub__(self, other):
        told = as_ratio(other)
        if told is None:
            return NotImplemented
        return Ratio(self.number * told.over - told.number * self.over, self.over * told.over)

    def __rsub__(self, other):
        return -self + other

    def __mul__(self, other):
        told = as_ratio(other)
        if told is None:
            return NotImplemented
        return Ratio(self.number * told.number, self.over * told.over)

    def __rmul__(self, other):
        return self * other

    def is_less(self, other):
        """Whether it is less than another ratio or an integer."""
        told = as_ratio(other)
        return self.number * told.over < told.number * self.over

    def divided(self, other):
        """The quotient by another ratio or an integer."""
        told = as_ratio(other)
        return Ratio(self.number * told.over, self.over * told.number)


def as_ratio(value):
    """A ratio as it is, an integer as a ratio; None for any other value."""
    if isinstance(value, Ratio):
        return value
    return Ratio(value) if isinstance(value, int) and not isinstance(value, bool) else None
