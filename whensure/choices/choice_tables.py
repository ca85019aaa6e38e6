"""The tables of all choices that are possible, which get the same bounds and keep the same points."""

from whensure.bounds.points import START, event_point
from whensure.choices.choices import all_choices, bounds_left, points_named
from whensure.choices.stretches import join_stretches, stretch_of
from whensure.tables.table import Table, table_with


class ChoiceTables:
    """Pairs of a choice and its table, in the order of the choices; all tables have the same points."""

    def __init__(self, pairs):
        self.pairs = pairs

    def points_kept(self):
        """Return the list of the points that each table has; it is empty if there is no table."""
        return self.pairs[0][1].points if self.pairs else []

    def choices_left(self):
        """Return the list of the choices that have a table."""
        return [choice for choice, _ in self.pairs]

    def put_bounds(self, bounds):
        """Add the points that the bounds name, and put the bounds that each choice leaves into its table."""
        known = self.points_kept()
        added = points_named(bounds, known)[len(known):]
        left = []
        for choice, table in self.pairs:
            for point in added:
                table.add_point(point)
            if put_all(table, bounds_left(bounds, choice)):
                left.append((choice, table))
        self.pairs = left

    def keep_only(self, points):
        """Remove all points that are not in the list from each table."""
        for _, table in self.pairs:
            table.keep_points(points)

    def stretches(self, first, second):
        """Return the list of joined stretches of how much later the second point can be than the first one."""
        return join_stretches([stretch_of(table, first, second) for _, table in self.pairs])

    def fork(self):
        """Return a new object that is equal and independent."""
        return ChoiceTables([(choice, table.fork()) for choice, table in self.pairs])


def put_all(table, bounds):
    """Put the bounds into a table, up to one that makes it impossible; return if it is possible afterwards."""
    for first, second, amount, _ in bounds:
        if not table.put_bound(first, second, amount):
            return False
    return True


def frame_choices(frame):
    """Return the list of all choices of a frame's parts."""
    return all_choices(frame.part_count, frame.faults)


def copies_of(table, frame):
    """Return the tables in which each choice of the frame has a copy of this table."""
    return ChoiceTables([(choice, table.fork()) for choice in frame_choices(frame)])


def first_tables(frame):
    """Return the tables of a watch that knows only the births."""
    table = Table()
    table.add_point(START)
    for device in range(len(frame.devices)):
        table.add_point(event_point((device, 0)))
    return copies_of(table, frame)


def greatest_distance(tables, first, second):
    """Return the greatest distance of some tables; None if one of them has none."""
    distances = [table.distance(first, second) for table in tables]
    return None if None in distances else max(distances)


def greatest_table(choice_tables):
    """Return a table with the greatest distances of all tables, of which there is at least one."""
    points = choice_tables.points_kept()
    tables = [table for _, table in choice_tables.pairs]
    # The greatest ones of least sums are least sums, too: no way around is shorter in any of the tables.
    rows = [[greatest_distance(tables, first, second) for second in points] for first in points]
    return table_with(points, rows)
