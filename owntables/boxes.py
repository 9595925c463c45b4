"""The least boxes around rows."""


def bounds(row):
    """For each direction a tuple of the least and the greatest coordinate of a row that is not zero."""
    places = [place for place, number in row]
    return [(min(column), max(column)) for column in zip(*places)]
