"""Tables and looks."""

from owntables.rows import add, mirror, multiply


def cross_table(first, second):
    """At each place d the sum of first's number at p + d times second's number at p, over all p."""
    return multiply(first, mirror(second))


def own_table(row):
    """The cross table of the row with itself."""
    return cross_table(row, row)


def look(row, reference):
    """The own table of the sum of the row and the reference."""
    return own_table(add(row, reference))


def middle(row):
    """The number at the place whose coordinates are all 0."""
    for place, number in row:
        if not any(place):
            return number
    return 0


def total(row):
    """The sum of all numbers."""
    return sum([number for place, number in row])
