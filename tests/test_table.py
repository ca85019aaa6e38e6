"""Points [25] and [26], Table and table_with."""

import random
import unittest

from tests.reference import distances_of
from whensure.tables import table as module
from whensure.tables.table import Table, table_with

A, B, C, D, X = (0, 0, -1), (0, 1, -1), (1, 0, -1), (1, 5, 2), (-1, 0, -1)
MOST = 10**12


def table_of_points(*points):
    """Return a table with these points and no bounds."""
    table = Table()
    for point in points:
        table.add_point(point)
    return table


def rows_of(table):
    """Return all distances of a table, row by row."""
    return [[table.distance(first, second) for second in table.points] for first in table.points]


class InterfaceTest(unittest.TestCase):
    def test_they_are_defined_here_with_all_that_the_interface_lists(self):
        self.assertEqual((Table.__module__, table_with.__module__), (module.__name__, module.__name__))
        for name in ["add_point", "put_bound", "distance", "keep_points", "time_of", "fork"]:
            self.assertTrue(callable(vars(Table)[name]), name)
        for name in ["points", "possible"]:
            self.assertIsInstance(vars(Table)[name], property)

    def test_calls_that_only_change_return_nothing(self):
        table = Table()
        self.assertIsNone(table.add_point(A))
        self.assertIsNone(table.keep_points([A]))


class PointsTest(unittest.TestCase):
    def test_at_the_start_there_are_none(self):
        self.assertEqual(Table().points, [])
        self.assertIs(Table().possible, True)

    def test_in_the_order_in_which_they_were_added(self):
        self.assertEqual(table_of_points(C, A, X, D, B).points, [C, A, X, D, B])

    def test_the_list_is_new_each_time(self):
        table = table_of_points(A, B)
        table.points.append(C)
        table.points.clear()
        self.assertEqual(table.points, [A, B])

    def test_tables_are_independent(self):
        first, second = Table(), Table()
        first.add_point(A)
        self.assertEqual(second.points, [])

    def test_a_new_point_has_the_distance_0_to_itself_and_no_other(self):
        table = table_of_points(A, B)
        self.assertTrue(table.put_bound(A, B, 3))
        table.add_point(C)
        self.assertEqual(rows_of(table), [[0, 3, None], [None, 0, None], [None, None, 0]])


class PutBoundTest(unittest.TestCase):
    def test_a_bound_leads_one_way(self):
        table = table_of_points(A, B)
        self.assertIs(table.put_bound(A, B, 5), True)
        self.assertEqual(rows_of(table), [[0, 5], [None, 0]])

    def test_a_bound_that_shortens(self):
        table = table_of_points(A, B)
        for amount, distance in [(5, 5), (4, 4), (0, 0), (-7, -7), (-MOST, -MOST)]:
            self.assertIs(table.put_bound(A, B, amount), True)
            self.assertEqual(table.distance(A, B), distance)

    def test_a_bound_that_changes_nothing(self):
        table = table_of_points(A, B, C)
        table.put_bound(A, B, 5)
        table.put_bound(B, C, -2)
        rows = rows_of(table)
        for first, second, amount in [(A, B, 5), (A, B, 6), (A, C, 3), (A, C, 99), (B, C, 0)]:
            self.assertIs(table.put_bound(first, second, amount), True)
            self.assertEqual(rows_of(table), rows)

    def test_chains_before_and_behind_the_bound(self):
        table = table_of_points(A, B, C, D)
        table.put_bound(A, B, 1)
        table.put_bound(C, D, 20)
        table.put_bound(B, C, -300)
        self.assertEqual(rows_of(table), [
            [0, 1, -299, -279], [None, 0, -300, -280], [None, None, 0, 20], [None, None, None, 0],
        ])

    def test_a_way_round_is_taken_only_where_it_is_shorter(self):
        table = table_of_points(A, B, C, D)
        for bound in [(A, B, 10), (B, D, 10), (A, D, 15), (C, D, 1), (A, C, 13)]:
            table.put_bound(*bound)
        self.assertEqual(table.distance(A, D), 14)
        table.put_bound(B, C, 2)
        self.assertEqual((table.distance(A, C), table.distance(A, D), table.distance(B, D)), (12, 13, 3))

    def test_a_bound_from_a_point_to_itself(self):
        table = table_of_points(A, B)
        self.assertIs(table.put_bound(A, A, 0), True)
        self.assertIs(table.put_bound(A, A, 7), True)
        self.assertEqual(rows_of(table), [[0, None], [None, 0]])
        self.assertIs(table.put_bound(A, A, -1), False)
        self.assertIs(table.possible, False)
        self.assertEqual(rows_of(table), [[0, None], [None, 0]])

    def test_a_ring_with_the_sum_0(self):
        table = table_of_points(A, B, C)
        self.assertTrue(table.put_bound(A, B, 5))
        self.assertTrue(table.put_bound(B, C, -8))
        self.assertIs(table.put_bound(C, A, 3), True)
        self.assertIs(table.possible, True)
        self.assertEqual(rows_of(table), [[0, 5, -3], [-5, 0, -8], [3, 8, 0]])

    def test_a_ring_below_0_changes_nothing_else(self):
        for amount in [2, 1, -MOST]:
            table = table_of_points(A, B, C, D)
            table.put_bound(A, B, 5)
            table.put_bound(B, C, -8)
            table.put_bound(C, D, 1)
            rows = rows_of(table)
            self.assertIs(table.possible, True)
            self.assertIs(table.put_bound(C, A, amount), False)
            self.assertIs(table.possible, False)
            self.assertEqual(table.points, [A, B, C, D])
            self.assertEqual(rows_of(table), rows)

    def test_great_amounts_and_sums_of_many(self):
        points = [(2, number, -1) for number in range(60)]
        table = table_of_points(*points)
        for first, second in zip(points, points[1:]):
            table.put_bound(first, second, MOST)
            self.assertIs(table.put_bound(second, first, -MOST), True)
        self.assertEqual(table.distance(points[0], points[-1]), 59 * MOST)
        self.assertEqual(table.distance(points[-1], points[0]), -59 * MOST)
        self.assertEqual(table.time_of(points[0]), -59 * MOST)
        self.assertIs(table.put_bound(points[0], points[-1], 59 * MOST), True)
        self.assertIs(table.put_bound(points[0], points[-1], 59 * MOST - 1), False)


class KeepPointsTest(unittest.TestCase):
    def chain(self):
        """Return a table with bounds from A to B to C to D."""
        table = table_of_points(A, B, C, D)
        table.put_bound(A, B, 1)
        table.put_bound(B, C, 2)
        table.put_bound(C, D, -9)
        return table

    def test_distances_by_way_of_points_that_were_removed(self):
        table = self.chain()
        table.keep_points([A, D])
        self.assertEqual(table.points, [A, D])
        self.assertEqual(rows_of(table), [[0, -6], [None, 0]])
        self.assertTrue(table.put_bound(D, A, 7))
        self.assertEqual(rows_of(table), [[0, -6], [7, 0]])
        self.assertFalse(table.put_bound(D, A, 5))

    def test_the_order_of_the_list_does_not_matter(self):
        table = self.chain()
        passed = [D, A, C]
        table.keep_points(passed)
        self.assertEqual(passed, [D, A, C])
        self.assertEqual(table.points, [A, C, D])
        self.assertEqual(rows_of(table), [[0, 3, -6], [None, 0, -9], [None, None, 0]])

    def test_points_that_are_not_there_and_points_that_are_named_twice(self):
        table = self.chain()
        table.keep_points([X, B, B, X, C])
        self.assertEqual(table.points, [B, C])

    def test_all_are_kept(self):
        table = self.chain()
        rows = rows_of(table)
        table.keep_points([B, A, D, C])
        self.assertEqual((table.points, rows_of(table)), ([A, B, C, D], rows))

    def test_none_is_kept(self):
        table = self.chain()
        table.keep_points([])
        self.assertEqual(table.points, [])
        self.assertIs(table.possible, True)
        table.add_point(B)
        self.assertEqual(rows_of(table), [[0]])

    def test_a_point_that_is_removed_and_added_again_is_a_new_one(self):
        table = self.chain()
        table.keep_points([A, C, D])
        table.add_point(B)
        self.assertEqual(table.points, [A, C, D, B])
        self.assertEqual(rows_of(table), [
            [0, 3, -6, None], [None, 0, -9, None], [None, None, 0, None], [None, None, None, 0],
        ])
        table.put_bound(D, B, 4)
        self.assertEqual(table.distance(A, B), -2)


class ForkTest(unittest.TestCase):
    def test_equal(self):
        table = table_of_points(C, A, B)
        table.put_bound(A, B, 4)
        table.put_bound(C, A, -1)
        other = table.fork()
        self.assertIsInstance(other, Table)
        self.assertIsNot(other, table)
        self.assertEqual((other.points, rows_of(other), other.possible), ([C, A, B], rows_of(table), True))

    def test_an_impossible_one(self):
        table = table_of_points(A)
        table.put_bound(A, A, -1)
        other = table.fork()
        self.assertEqual((other.possible, other.points, rows_of(other)), (False, [A], [[0]]))

    def test_independent_in_both_directions(self):
        for turned in [False, True]:
            first = table_of_points(A, B, C)
            first.put_bound(A, B, 4)
            second = first.fork()
            if turned:
                first, second = second, first
            first.put_bound(A, B, 1)
            first.put_bound(B, C, 1)
            first.keep_points([A, C])
            first.add_point(D)
            first.put_bound(A, A, -1)
            self.assertEqual((second.points, second.possible), ([A, B, C], True))
            self.assertEqual(rows_of(second), [[0, 4, None], [None, 0, None], [None, None, 0]])


class TableWithTest(unittest.TestCase):
    def test_points_in_order_and_rows(self):
        rows = [[0, 4, None], [-3, 0, None], [7, 11, 0]]
        table = table_with([C, A, D], rows)
        self.assertIsInstance(table, Table)
        self.assertEqual((table.points, rows_of(table), table.possible), ([C, A, D], rows, True))

    def test_no_points(self):
        table = table_with([], [])
        self.assertEqual((table.points, table.possible), ([], True))
        table.add_point(A)
        self.assertEqual(rows_of(table), [[0]])

    def test_independent_of_what_was_passed(self):
        points, rows = [A, B], [[0, 4], [None, 0]]
        table = table_with(points, rows)
        points.reverse()
        rows[0][1] = 99
        rows.append([1])
        self.assertEqual((table.points, rows_of(table)), ([A, B], [[0, 4], [None, 0]]))

    def test_what_was_passed_stays_as_it_was(self):
        points, rows = [A, B], [[0, 4], [None, 0]]
        table = table_with(points, rows)
        table.put_bound(B, A, -1)
        table.add_point(C)
        table.keep_points([C])
        self.assertEqual((points, rows), ([A, B], [[0, 4], [None, 0]]))

    def test_further_bounds(self):
        table = table_with([A, B], [[0, 4], [None, 0]])
        table.add_point(C)
        self.assertTrue(table.put_bound(B, C, 5))
        self.assertTrue(table.put_bound(B, A, -4))
        self.assertEqual(rows_of(table), [[0, 4, 9], [-4, 0, 5], [None, None, 0]])
        self.assertFalse(table.put_bound(C, A, -10))


class RandomTest(unittest.TestCase):
    """Tables against distances that are found in another way, while points come and go."""

    def test_distances_by_all_bounds_that_were_put_in(self):
        ended = 0
        for seed in range(400):
            chance = random.Random(seed)
            table, bounds, points = Table(), [], []
            for step in range(40):
                # Points that were removed keep their bounds; a point that is added again would be another point.
                if len(table.points) < 2 or chance.random() < 0.25:
                    points.append((0, step, -1))
                    table.add_point(points[-1])
                elif chance.random() < 0.1:
                    kept = [point for point in table.points if chance.random() < 0.7]
                    table.keep_points(chance.sample(kept, len(kept)))
                else:
                    bounds.append((*chance.choices(table.points, k=2), chance.randint(-4, 12)))
                    if not table.put_bound(*bounds[-1]):
                        break
                found = distances_of(points, bounds)
                self.assertEqual(
                    rows_of(table), [[found.get((p, q)) for q in table.points] for p in table.points], seed
                )
            self.assertEqual(table.possible, distances_of(points, bounds) is not None)
            ended += not table.possible
        self.assertTrue(100 < ended < 399, ended)


if __name__ == "__main__":
    unittest.main()
