"""The checks that come before all others: dimensions and one direction."""

from owntables.errors import MixedDimensions, OneDirectionOnly


def places_length(row):
    """The number of coordinates of the row's places, 0 for the zero row."""
    return len(row[0][0]) if row else 0


def same_lengths(lengths):
    """Raises MixedDimensions if two lengths other than 0 differ."""
    known = [length for length in lengths if length != 0]
    if any([length != known[0] for length in known]):
        raise MixedDimensions()


def same_dimension(rows, places=()):
    """Raises MixedDimensions if two of the rows and places do not fit together."""
    same_lengths([places_length(row) for row in rows] + [len(place) for place in places])


def one_direction(rows):
    """Raises MixedDimensions or OneDirectionOnly unless all rows are in one direction."""
    same_dimension(rows)
    for row in rows:
        if places_length(row) > 1:
            raise OneDirectionOnly(places_length(row))
