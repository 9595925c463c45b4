"""Strips: rows with operators."""

from owntables.division import quotient
from owntables.rows import add, mirror, multiply, negate, power, subtract


class Strip:
    """A copy of a row that does arithmetic by operators."""

    def __init__(self, row):
        self.entries = list(row)

    def row(self):
        """The row of the strip."""
        return list(self.entries)

    @property
    def weight(self):
        """The sum of the squares of the numbers."""
        return sum([number * number for place, number in self.entries])

    @staticmethod
    def unit(sign, place):
        """The strip of the unit with the number `sign` at the place."""
        return Strip([(place, sign)])

    def __add__(self, other):
        return Strip(add(self.entries, other.entries))

    def __sub__(self, other):
        return Strip(subtract(self.entries, other.entries))

    def __mul__(self, other):
        return Strip(multiply(self.entries, other.entries))

    def __floordiv__(self, other):
        return Strip(quotient(self.entries, other.entries))

    def __pow__(self, other):
        return Strip(power(self.entries, other))

    def __neg__(self):
        return Strip(negate(self.entries))

    def __invert__(self):
        return Strip(mirror(self.entries))

    def __bool__(self):
        return bool(self.entries)

    def __contains__(self, x):
        return x in [place for place, number in self.entries]

    def __iter__(self):
        return iter(self.entries)
