"""Choices of the parts that may be broken, and the tables of what they leave."""

from itertools import combinations

from whensure.tables.table import Table


def all_choices(parts, faults):
    """Return the list of all choices of so many faults out of the parts 0 to parts - 1."""
    return list(combinations(range(parts), faults))


def bounds_left(bounds, choice):
    """Return the list of the bounds that the choice leaves, in their order."""
    return [bound for bound in bounds if bound[3] not in choice]


def points_named(bounds, points):
    """Return the list of the points, then of those that the bounds name, in order and each once."""
    named = {point: True for point in points}
    for first, second, _, _ in bounds:
        named[first] = True
        named[second] = True
    return list(named)


def table_of(bounds, points):
    """Return a table with the points and those that the bounds name, into which the bounds were put.

    It has all points also if a bound makes it impossible; the bounds behind that one are not put in.
    """
    table = Table()
    for point in points_named(bounds, points):
        table.add_point(point)
    for first, second, amount, _ in bounds:
        if not table.put_bound(first, second, amount):
            break
    return table


def possible_tables(bounds, choices, points):
    """Return, for each choice that is possible, the pair of it and a table of these points alone, in order."""
    pairs = []
    for choice in choices:
        table = table_of(bounds_left(bounds, choice), points)
        if table.possible:
            # The other points would only take room while the further tables are made.
            table.keep_points(points)
            pairs.append((choice, table))
    return pairs
