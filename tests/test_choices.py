"""Point [29]: choices, the bounds that they leave, and the tables of these."""

import copy
import itertools
import unittest

from whensure.choices import choices as module
from whensure.choices.choices import all_choices, bounds_left, table_of
from whensure.tables.table import Table

A, B, C, D = (0, 0, -1), (0, 1, -1), (1, 3, 2), (-1, 0, -1)


def rows_of(table):
    """Return all distances of a table, row by row."""
    return [[table.distance(first, second) for second in table.points] for first in table.points]


class AllChoicesTest(unittest.TestCase):
    def test_they_are_defined_here(self):
        for function in [all_choices, bounds_left, table_of]:
            self.assertEqual(function.__module__, module.__name__)

    def test_no_faults(self):
        for parts in range(10):
            self.assertEqual(all_choices(parts, 0), [()])

    def test_one_fault(self):
        self.assertEqual(all_choices(1, 1), [(0,)])
        self.assertEqual(all_choices(4, 1), [(0,), (1,), (2,), (3,)])

    def test_two_faults(self):
        self.assertEqual(all_choices(2, 2), [(0, 1)])
        self.assertEqual(all_choices(3, 2), [(0, 1), (0, 2), (1, 2)])
        self.assertEqual(all_choices(4, 2), [(0, 1), (0, 2), (0, 3), (1, 2), (1, 3), (2, 3)])

    def test_more_faults(self):
        self.assertEqual(all_choices(4, 3), [(0, 1, 2), (0, 1, 3), (0, 2, 3), (1, 2, 3)])
        self.assertEqual(all_choices(5, 5), [(0, 1, 2, 3, 4)])

    def test_more_faults_than_parts(self):
        for parts, faults in [(0, 1), (0, 2), (1, 2), (3, 4), (9, 10)]:
            self.assertEqual(all_choices(parts, faults), [])

    def test_all_ascending_tuples_in_ascending_order(self):
        for parts in range(10):
            for faults in range(parts + 2):
                found = all_choices(parts, faults)
                expected = [
                    chosen for chosen in itertools.product(range(parts), repeat=faults)
                    if all(first < second for first, second in zip(chosen, chosen[1:]))
                ] if faults <= 4 else found
                self.assertEqual(found, expected)
                self.assertEqual(found, sorted(set(found)))
                for choice in found:
                    self.assertIs(type(choice), tuple)
                    self.assertEqual((len(choice), list(choice)), (faults, sorted(set(choice))))
        self.assertEqual([len(all_choices(9, faults)) for faults in range(10)], [1, 9, 36, 84, 126, 126, 84, 36, 9, 1])

    def test_the_list_is_new(self):
        all_choices(3, 1).clear()
        self.assertEqual(all_choices(3, 1), [(0,), (1,), (2,)])


class BoundsLeftTest(unittest.TestCase):
    bounds = [(A, B, 1, 2), (B, A, 2, -1), (A, C, 3, 0), (C, A, 4, 2), (B, C, 5, 1), (B, C, 5, 1), (C, B, 6, -1)]

    def test_all_but_those_of_a_chosen_part_in_their_order(self):
        for choice, left in [
            ((), [0, 1, 2, 3, 4, 5, 6]), ((0,), [0, 1, 3, 4, 5, 6]), ((1,), [0, 1, 2, 3, 6]), ((2,), [1, 2, 4, 5, 6]),
            ((0, 1), [0, 1, 3, 6]), ((1, 2), [1, 2, 6]), ((0, 1, 2), [1, 6]), ((3,), [0, 1, 2, 3, 4, 5, 6]),
        ]:
            self.assertEqual(bounds_left(self.bounds, choice), [self.bounds[at] for at in left], choice)

    def test_no_bounds(self):
        self.assertEqual(bounds_left([], (0,)), [])
        self.assertEqual(bounds_left([(A, B, 1, 0)], (0,)), [])

    def test_the_list_is_new_and_the_one_that_is_passed_stays_as_it_was(self):
        bounds = list(self.bounds)
        for choice in [(), (0,), (3,)]:
            left = bounds_left(bounds, choice)
            self.assertIsNot(left, bounds)
            left.clear()
            self.assertEqual(bounds, self.bounds)


class TableOfTest(unittest.TestCase):
    def test_no_bounds_and_no_points(self):
        table = table_of([], [])
        self.assertIsInstance(table, Table)
        self.assertEqual((table.points, table.possible), ([], True))

    def test_the_points_of_the_list_come_first_each_once(self):
        bounds = [(B, A, 5, 0), (C, B, 6, -1)]
        for points, expected in [
            ([], [B, A, C]), ([C], [C, B, A]), ([A, C], [A, C, B]), ([D, A], [D, A, B, C]),
            ([D, D], [D, B, A, C]), ([A, D, A, B, A], [A, D, B, C]),
        ]:
            self.assertEqual(table_of(bounds, points).points, expected)
            self.assertEqual(table_of([], points).points, list(dict.fromkeys(points)))

    def test_points_in_the_order_in_which_the_bounds_name_them(self):
        self.assertEqual(table_of([(D, D, 0, 0), (C, A, 1, 0), (B, D, 1, 0)], []).points, [D, C, A, B])

    def test_all_bounds_are_put_in(self):
        table = table_of([(A, B, 5, 0), (B, C, -2, -1), (A, C, 9, 1), (C, A, 1, 2)], [])
        self.assertIs(table.possible, True)
        self.assertEqual((table.points, rows_of(table)), ([A, B, C], [[0, 5, 3], [-1, 0, -2], [1, 6, 0]]))

    def test_up_to_the_one_that_makes_it_impossible(self):
        bounds = [(A, B, 5, 0), (B, A, -6, 1), (A, B, 1, 2), (B, C, 1, 0), (C, D, 1, 3)]
        table = table_of(bounds, [])
        self.assertIs(table.possible, False)
        self.assertEqual(table.points, [A, B, C, D])
        self.assertEqual(rows_of(table), [
            [0, 5, None, None], [None, 0, None, None], [None, None, 0, None], [None, None, None, 0],
        ])

    def test_what_is_passed_stays_as_it_was(self):
        passed = ([(A, B, 5, 0), (B, A, -6, 1)], [C, B, C])
        copied = copy.deepcopy(passed)
        table_of(*passed).points.clear()
        self.assertEqual(passed, copied)


if __name__ == "__main__":
    unittest.main()
