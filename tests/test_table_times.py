"""Points [27] and [28]: the times of points, and the differences that are possible."""

import itertools
import random
import unittest

from tests.reference import can_be_later
from whensure.tables.table import Table

A, B, C, D = (0, 0, -1), (0, 1, -1), (0, 2, -1), (0, 3, -1)


def table_by(points, bounds):
    """Return a table with these points and bounds, which are possible."""
    table = Table()
    for point in points:
        table.add_point(point)
    for bound in bounds:
        assert table.put_bound(*bound)
    return table


class TimeTest(unittest.TestCase):
    def times(self, points, bounds):
        """Return the times of the points."""
        table = table_by(points, bounds)
        return [table.time_of(point) for point in points]

    def test_without_bounds_all_times_are_0(self):
        self.assertEqual(self.times([A, B, C], []), [0, 0, 0])
        self.assertEqual(self.times([A], []), [0])

    def test_the_least_of_all_distances_to_a_point(self):
        self.assertEqual(self.times([A, B, C], [(A, C, -5), (B, C, -7)]), [0, 0, -7])
        self.assertEqual(self.times([A, B, C], [(A, B, -5), (B, C, -7)]), [0, -5, -12])
        self.assertEqual(self.times([A, B, C], [(A, B, 5), (B, C, -7)]), [0, 0, -7])

    def test_positive_distances_do_not_count(self):
        self.assertEqual(self.times([A, B], [(A, B, 5)]), [0, 0])
        self.assertEqual(self.times([A, B], [(A, B, 5), (B, A, -2)]), [-2, 0])

    def test_by_distances_through_points_that_were_removed(self):
        table = table_by([A, B, C], [(A, B, -5), (B, C, -7)])
        table.keep_points([C, A])
        self.assertEqual((table.time_of(A), table.time_of(C)), (0, -12))
        table.keep_points([C])
        self.assertEqual(table.time_of(C), 0)

    def test_it_changes_nothing(self):
        table = table_by([A, B], [(A, B, -5)])
        self.assertEqual([table.time_of(B), table.time_of(B)], [-5, -5])
        self.assertEqual((table.points, table.distance(A, B), table.possible), ([A, B], -5, True))

    def test_times_meet_all_bounds(self):
        below = 0
        for seed in range(300):
            chance = random.Random(seed)
            table = Table()
            points = [(0, number, -1) for number in range(chance.randint(1, 9))]
            for point in points:
                table.add_point(point)
            put = []
            for _ in range(chance.randint(0, 20)):
                bound = (*chance.choices(points, k=2), chance.randint(-9, 15))
                if table.put_bound(*bound):
                    put.append(bound)
                else:
                    table = table_by(points, put)
            times = {point: table.time_of(point) for point in points}
            self.assertLessEqual(max(times.values()), 0)
            for first, second, amount in put:
                self.assertLessEqual(times[second] - times[first], amount, seed)
            below += min(times.values()) < 0
        self.assertGreater(below, 100)


EXAMPLES = [
    [(A, B, 3)],
    [(B, A, 2)],
    [(A, B, 3), (B, A, 2)],
    [(A, B, 4), (B, A, -1)],
    [(A, B, -2), (B, A, 2)],
    [(A, C, 2), (C, B, 1), (B, C, 0), (C, A, -1)],
    [(A, C, 1), (B, C, 1)],
    [(C, A, 1), (C, B, -1)],
    [(A, C, 2), (C, B, -3), (B, D, 4), (D, A, 2), (D, C, 1)],
    [],
]


class PossibleDifferencesTest(unittest.TestCase):
    """Each integer from minus the distance back to the distance can be the difference, and no other."""

    def differences(self, bounds):
        """Return by how much B can be later than A, from -8 to 8, trying instants of all points, with A at 0."""
        found = set()
        for b, c, d in itertools.product(range(-8, 9), range(-14, 15), range(-14, 15)):
            at = {A: 0, B: b, C: c, D: d}
            if all(at[second] - at[first] <= amount for first, second, amount in bounds):
                found.add(b)
        return found

    def test_examples_by_trying_all_instants(self):
        for bounds in EXAMPLES:
            table = table_by([A, B, C, D], bounds)
            most, back = table.distance(A, B), table.distance(B, A)
            least = -8 if back is None else -back
            most = 8 if most is None else most
            self.assertEqual(self.differences(bounds), set(range(least, most + 1)), bounds)

    def test_random_tables(self):
        ends = [0, 0]
        for seed in range(150):
            chance = random.Random(seed)
            points = [(0, number, -1) for number in range(5)]
            table = table_by(points, [])
            put = []
            for _ in range(12):
                bound = (*chance.choices(points, k=2), chance.randint(-3, 6))
                trial = table.fork()
                if trial.put_bound(*bound):
                    table = trial
                    put.append(bound)
            most, back = table.distance(points[0], points[1]), table.distance(points[1], points[0])
            for number in range(-20, 21):
                expected = (most is None or number <= most) and (back is None or number >= -back)
                self.assertEqual(can_be_later(put, points[0], points[1], number), expected, (seed, number))
            ends[0] += most is None or back is None
            ends[1] += most is not None and back is not None
        self.assertGreater(min(ends), 10)


if __name__ == "__main__":
    unittest.main()
