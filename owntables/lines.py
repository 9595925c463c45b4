"""Lines and rank: how much the looks at several references tell."""

from owntables.checks import places_length, same_dimension
from owntables.forms import is_symmetric
from owntables.rows import first_way, negate, shift, subtract
from owntables.tables import cross_table


def on_one_line(first, second, third):
    """Whether the cross table of the differences to the first reference is symmetric."""
    same_dimension([first, second, third])
    return is_symmetric(cross_table(subtract(second, first), subtract(third, first)))


def raises_rank(known, reference):
    """Whether the rank of some references, of which there are as many as their rank, grows by one more."""
    if len(known) < 2:
        return reference not in known
    return len(known) == 2 and not on_one_line(known[0], known[1], reference)


def basis(references):
    """The indexes of the first references that have the rank of all of them."""
    same_dimension(references)
    found = []
    for index, reference in enumerate(references):
        if raises_rank([references[k] for k in found], reference):
            found.append(index)
    return found


def rank(references):
    """0 for no references, 1 for equal ones, 2 for references on one line, 3 for others."""
    return len(basis(references))


def tells(references, reference):
    """Whether the rank stays the same when the reference is appended."""
    return rank([*references, reference]) == rank(references)


def pair_of_one(reference):
    """Two different rows that look alike at the reference: plus and minus a unit, less the reference."""
    unit = [(first_way(0, max(places_length(reference), 1)), 1)]
    return subtract(unit, reference), subtract(negate(unit), reference)


def pair_of_two(first, second):
    """Two different rows that look alike at two different references.

    Plus the first reference they are the difference of the two references, moved
    to one side and to the other; so one look is that of a mirror.
    """
    difference = subtract(second, first)
    length = places_length(difference)
    rows = [shift(difference, first_way(by, length)) for by in (1, -1)]
    return subtract(rows[0], first), subtract(rows[1], first)


def open_pair(references):
    """Two different rows that look alike at all references, None where there are none."""
    indexes = basis(references)
    if not indexes:
        return pair_of_one([])
    first = references[indexes[0]]
    if len(indexes) == 1:
        return pair_of_one(first)
    return pair_of_two(first, references[indexes[1]]) if len(indexes) == 2 else None
