"""Guilt: which parts are surely broken, and which are surely right."""

from whensure.bounds.bounds import view_bounds
from whensure.bounds.points import NO_CLOCK
from whensure.choices.choices import all_choices, possible_tables, table_of


def event_points(points):
    """Return those of the points that are events or the beginning."""
    return [point for point in points if point[2] == NO_CLOCK]


def says_more(own, other, first, second):
    """Tell if one table gives a distance that the other one does not give as well."""
    distance = own.distance(first, second)
    if distance is None:
        return False
    reached = other.distance(first, second)
    return reached is None or reached > distance


def adds_nothing(own, other):
    """Tell if a part's own bounds say no more about events than the other bounds do; the tables are of these."""
    if not own.possible:
        return False
    points = event_points(own.points)
    return not any([says_more(own, other, first, second) for first in points for second in points])


def is_surely_right(part, bounds, tables):
    """Tell if a part is surely right; tables are the possible choices with their tables."""
    own = table_of([bound for bound in bounds if bound[3] == part], [])
    return all([adds_nothing(own, table) for choice, table in tables if part in choice])


def guilt_of(bounds, parts, faults):
    """Return the pair of the lists of parts that are surely broken and surely right; None if no choice is possible."""
    # Each table needs all events, since it may be asked about those that only a chosen part's bounds name.
    events = event_points([point for bound in bounds for point in bound[:2]])
    tables = possible_tables(bounds, all_choices(parts, faults), events)
    if not tables:
        return None
    broken = [part for part in range(parts) if all([part in choice for choice, _ in tables])]
    right = [part for part in range(parts) if is_surely_right(part, bounds, tables)]
    return (broken, right)


def view_guilt(frame, view):
    """Return guilt_of for the bounds of a view."""
    return guilt_of(view_bounds(frame, view), frame.part_count, frame.faults)
