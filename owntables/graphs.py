"""Graphs of rows: what the looks of some pairs of rows tell of a list."""

from owntables.checks import one_direction, places_length, same_dimension
from owntables.common import common_factor
from owntables.division import divide
from owntables.errors import BadEdge, Contradiction, LengthsDiffer, NoCross, NotKin
from owntables.kin import kin_count
from owntables.lists import list_certificate
from owntables.rows import add, first_way, mirror, multiply, shift, subtract
from owntables.tables import cross_table, look, own_table


def edge_looks(first, second):
    """The own tables of first plus second and of first plus second moved one step."""
    same_dimension([first, second])
    return look(first, second), look(first, shift(second, first_way(1, places_length(second))))


def cross_of_sums(straight, moved, length):
    """The row that plus its mirror is `straight`, and moved one step back plus the mirror of this is `moved`.

    It is None if there is no such row. The second sum minus the first one, moved
    one step, is the row times a factor, as the mirror of the row cancels.
    """
    forth = first_way(1, length)
    factor = [(first_way(-1, length), 1), (forth, -1)]
    cross, rest = divide(subtract(moved, shift(straight, forth)), factor)
    if rest or add(cross, mirror(cross)) != straight:
        return None
    return cross


def find_cross(own_first, own_second, together, shifted):
    """The cross table of two rows with these own tables and edge looks, None if there is none."""
    length = max([places_length(row) for row in (own_first, own_second, together, shifted)])
    alone = add(own_first, own_second)
    cross = cross_of_sums(subtract(together, alone), subtract(shifted, alone), max(length, 1))
    if cross is None or multiply(cross, mirror(cross)) != multiply(own_first, own_second):
        return None
    return cross


def cross_of_edge(own_first, own_second, together, shifted):
    """The cross table of any two rows with these own tables and edge looks."""
    same_dimension([own_first, own_second, together, shifted])
    cross = find_cross(own_first, own_second, together, shifted)
    if cross is None:
        raise NoCross(0)
    return cross


def require_pair(i, j, many, index):
    """Raises BadEdge with the index of the pair unless it joins two different ones of `many` rows."""
    if i not in range(many) or j not in range(many) or i == j:
        raise BadEdge(index)


def composed(first, second, between):
    """The cross table over a row between two others, by their tables with it; None if no row is this table."""
    table, rest = divide(multiply(first, second), between)
    return None if rest else table


def joined_tables(known, owns, i, j, cross):
    """The tables that an edge between two parts adds to the known ones, None if one of them does not exist."""
    found = {}
    left = [pair[0] for pair in known if pair[1] == i]
    right = [pair[1] for pair in known if pair[0] == j]
    for a in left:
        to_end = cross if a == i else composed(known[a, i], cross, owns[i])
        for b in right:
            if to_end is None:
                return None
            table = to_end if b == j else composed(to_end, known[j, b], owns[j])
            if table is None:
                return None
            found[a, b] = table
            found[b, a] = mirror(table)
    return found


def told_tables(known, owns, i, j, cross):
    """The tables that an edge adds to the known ones, None if it contradicts them."""
    if not owns[i] or not owns[j]:
        return {}
    if (i, j) in known:
        return {} if known[i, j] == cross else None
    return joined_tables(known, owns, i, j, cross)


def known_tables(owns, edges):
    """A dict from all pairs of connected indexes, in both orders, to the tables."""
    known = {(index, index): own for index, own in enumerate(owns) if own}
    for k, (i, j, together, shifted) in enumerate(edges):
        require_pair(i, j, len(owns), k)
        cross = find_cross(owns[i], owns[j], together, shifted)
        if cross is None:
            raise NoCross(k)
        told = told_tables(known, owns, i, j, cross)
        if told is None:
            raise Contradiction(k)
        for pair in told:
            known[pair] = told[pair]
    return known


def table_at(known, owns, i, j):
    """The table at a pair of indexes, None if it is not determined."""
    if not owns[i] or not owns[j]:
        return []
    return list(known[i, j]) if (i, j) in known else None


def tables_of_graph(owns, edges):
    """The tables of a list of rows, as far as its own tables and the edges determine them."""
    same_dimension([*owns, *[row for i, j, together, shifted in edges for row in (together, shifted)]])
    known = known_tables(owns, edges)
    return [[table_at(known, owns, i, j) for j in range(len(owns))] for i in range(len(owns))]


def require_pairs(pairs, many):
    """Raises BadEdge at the first pair that does not join two different ones of `many` rows."""
    for index, (i, j) in enumerate(pairs):
        require_pair(i, j, many, index)


def connected(rows, pairs):
    """The ascending lists of the indexes of rows that are not zero and are connected, ascending."""
    parts = [[index] for index, row in enumerate(rows) if row]
    for pair in pairs:
        if rows[pair[0]] and rows[pair[1]]:
            touched = [part for part in parts if pair[0] in part or pair[1] in part]
            others = [part for part in parts if part not in touched]
            parts = [*others, [index for part in touched for index in part]]
    return sorted([sorted(part) for part in parts])


def components(rows, pairs):
    """The components of the rows that are not zero, connected by the pairs."""
    same_dimension(rows)
    require_pairs(pairs, len(rows))
    return connected(rows, pairs)


def other_own(first, second):
    """The first index at which the own tables of two lists differ, None if there is none."""
    for index, (row, other) in enumerate(zip(first, second)):
        if own_table(row) != own_table(other):
            return index
    return None


def other_cross(first, second, pairs):
    """The first pair whose cross tables in two lists differ, None if there is none."""
    for i, j in pairs:
        if cross_table(first[i], first[j]) != cross_table(second[i], second[j]):
            return i, j
    return None


def same_by_graph(first, second, pairs):
    """Whether two lists have the same length, the same own tables and the same cross tables for all pairs."""
    same_dimension([*first, *second])
    require_pairs(pairs, len(first))
    if len(first) != len(second) or other_own(first, second) is not None:
        return False
    return other_cross(first, second, pairs) is None


def graph_certificates(first, second, pairs):
    """For each component of first the factor to flip in its rows, and the unit behind it, that lead to second."""
    same_dimension([*first, *second])
    if len(first) != len(second):
        raise LengthsDiffer()
    require_pairs(pairs, len(first))
    index = other_own(first, second)
    if index is not None:
        raise NotKin((index, index))
    pair = other_cross(first, second, pairs)
    if pair is not None:
        raise NotKin(pair)
    found = []
    for part in connected(first, pairs):
        factor, sign, place = list_certificate([first[k] for k in part], [second[k] for k in part])
        found.append((part, factor, sign, place))
    return found


def graph_count(rows, pairs):
    """How many normal choices of the rows, component by component, have the same own and cross tables."""
    one_direction(rows)
    count = 1
    for part in components(rows, pairs):
        count = count * kin_count(common_factor([rows[k] for k in part]))
    return count
