"""Square roots, and certificates that a row has none."""

from heapq import heappop, heappush
from math import isqrt

from owntables.boxes import bounds
from owntables.checks import places_length, same_dimension
from owntables.errors import HasRoot, NoRoot
from owntables.forms import is_symmetric
from owntables.rows import add, key_base, key_of, keyed, minus, multiply, place_of, plus, unkeyed
from owntables.tables import middle


def is_square(number):
    """Whether the number is the square of an integer."""
    return number >= 0 and isqrt(number) * isqrt(number) == number


def lacks_square(row):
    """Whether the first entry or the box of a row that is not zero shows that it has no root."""
    place, number = row[0]
    coordinates = [x for pair in bounds(row) for x in pair] + list(place)
    return not is_square(number) or any([x % 2 != 0 for x in coordinates])


def inside_half(place, box):
    """Whether twice the place is in the box."""
    return all([low <= 2 * x <= high for x, (low, high) in zip(place, box)])


def root_changes(root, at, number):
    """What the rest loses, at which keys, when the root gets one entry more."""
    changes = [(at + other, 2 * number * times) for other, times in root.items()]
    return [*changes, (at + at, number * number)]


def take_away(rest, queue, changes):
    """Takes the changes away from the rest; keys that are new there come into the queue."""
    for key, change in changes:
        if key not in rest:
            heappush(queue, key)
            rest[key] = 0
        rest[key] = rest[key] - change


def extract(row):
    """A partial root and the rest of the row, by an extraction that begins at the first entry.

    The rest is zero exactly if the row has a square root.
    """
    if not row:
        return [], []
    if lacks_square(row):
        return [], list(row)
    length = places_length(row)
    base = key_base(row, row)
    box = bounds(row)
    rest = {key: number for key, number in keyed(row, base)}
    queue = sorted(rest)
    first = queue[0] // 2
    lead = isqrt(rest[2 * first])
    root = {first: lead}
    rest[2 * first] = 0
    while queue:
        key = heappop(queue)
        if rest[key] == 0:
            continue
        at = key - first
        if rest[key] % (2 * lead) != 0 or not inside_half(place_of(at, base, length), box):
            break
        number = rest[key] // (2 * lead)
        take_away(rest, queue, root_changes(root, at, number))
        root[at] = number
    return unkeyed(root, base, length), unkeyed(rest, base, length)


def root_half(row):
    """The entries, by their keys up to 0, of the root of a symmetric row; None if it surely has no root.

    The root of a symmetric row is its own mirror or the negated one, so its
    squares sum to the number in the middle of the row, up to the sign. Where
    there is no root, numbers that would go on growing soon exceed this sum.
    """
    base = key_base(row, row)
    box = bounds(row)
    first = key_of(row[0][0], base) // 2
    lead = isqrt(row[0][1])
    root = {first: lead}
    rest = {key: number for key, number in keyed(row, base) if 2 * first < key <= first}
    queue = sorted(rest)
    weight = abs(middle(row)) - lead * lead
    while queue:
        key = heappop(queue)
        if rest[key] == 0:
            continue
        at = key - first
        number = rest[key] // (2 * lead)
        weight = weight - number * number
        if weight < 0 or rest[key] % (2 * lead) != 0 or not inside_half(place_of(at, base, len(box)), box):
            return None
        changes = root_changes(root, at, number)
        take_away(rest, queue, [(other, change) for other, change in changes if other <= first])
        root[at] = number
    return root


def symmetric_root(row):
    """The root of a symmetric row that begins with a positive number, None if there is none."""
    if not row:
        return []
    if lacks_square(row):
        return None
    half = root_half(row)
    if half is None:
        return None
    sign = 1 if middle(row) > 0 else -1
    numbers = {-key: sign * number for key, number in half.items()}
    numbers.update(half)
    root = unkeyed(numbers, key_base(row, row), places_length(row))
    return root if multiply(root, root) == row else None


def find_root(row):
    """The root that begins with a positive number, None if there is none."""
    if is_symmetric(row):
        return symmetric_root(row)
    root, rest = extract(row)
    return None if rest else root


def square_root(row):
    """The row whose product with itself is the row and whose first number is positive."""
    root = find_root(row)
    if root is None:
        raise NoRoot()
    return root


def has_root(row):
    """Whether the row has a square root."""
    return find_root(row) is not None


def root_certificate(row):
    """A partial root and a rest that show that the row has no square root."""
    partial, rest = extract(row)
    if not rest:
        raise HasRoot()
    return partial, rest


def begins_root(row, partial):
    """Whether the partial root has the first entry and the box of a root of the row."""
    place, number = partial[0]
    if row[0] != (plus(place, place), number * number):
        return False
    box = bounds(row)
    return all([inside_half(at, box) for at, times in partial])


def ends_root(row, partial, rest):
    """Whether no entry makes the first entry of the rest vanish."""
    place, number = rest[0]
    first, lead = partial[0]
    return number % (2 * lead) != 0 or not inside_half(minus(place, first), bounds(row))


def check_no_root(row, certificate):
    """Whether the certificate shows that the row has no square root."""
    partial, rest = certificate
    same_dimension([row, partial, rest])
    if not row:
        return False
    if not partial:
        return rest == row and lacks_square(row)
    if not rest or not begins_root(row, partial):
        return False
    return add(multiply(partial, partial), rest) == row and ends_root(row, partial, rest)
