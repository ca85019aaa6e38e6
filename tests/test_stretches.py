"""Points [30] and [31]: stretches, joined and of a table."""

import itertools
import random
import unittest

from whensure.choices import stretches as module
from whensure.choices.stretches import holds_number, join_stretches, stretch_of
from whensure.tables.table import Table

A, B, C = (0, 0, -1), (0, 1, -1), (1, 3, 2)


def in_any_order(stretches):
    """Return the list in all orders."""
    return [list(order) for order in itertools.permutations(stretches)]


class JoinTest(unittest.TestCase):
    def assert_joined(self, stretches, joined):
        """Make sure that stretches are joined to these, in whatever order they come, also some of them twice."""
        for order in in_any_order(stretches):
            self.assertEqual(join_stretches(order), joined, order)
            self.assertEqual(join_stretches(order + order[:1]), joined, order)
        for stretch in join_stretches(stretches):
            self.assertIs(type(stretch), tuple)

    def test_they_are_defined_here(self):
        for function in [join_stretches, stretch_of, holds_number]:
            self.assertEqual(function.__module__, module.__name__)

    def test_none(self):
        self.assertEqual(join_stretches([]), [])

    def test_one(self):
        for stretch in [(0, 0), (-3, 7), (None, 2), (2, None), (None, None)]:
            self.assert_joined([stretch], [stretch])

    def test_overlapping(self):
        self.assert_joined([(0, 5), (3, 9)], [(0, 9)])
        self.assert_joined([(0, 5), (5, 9)], [(0, 9)])
        self.assert_joined([(-9, -3), (-5, 0)], [(-9, 0)])

    def test_no_integer_between(self):
        self.assert_joined([(0, 1), (2, 5)], [(0, 5)])
        self.assert_joined([(-4, -1), (0, 0)], [(-4, 0)])

    def test_exactly_one_integer_between(self):
        self.assert_joined([(0, 1), (3, 5)], [(0, 1), (3, 5)])
        self.assert_joined([(-4, -2), (0, 0)], [(-4, -2), (0, 0)])

    def test_one_inside_another(self):
        self.assert_joined([(0, 9), (3, 4)], [(0, 9)])
        self.assert_joined([(0, 9), (0, 4)], [(0, 9)])
        self.assert_joined([(0, 9), (4, 9)], [(0, 9)])
        self.assert_joined([(0, 9), (3, 4), (6, 12)], [(0, 12)])

    def test_the_same(self):
        self.assert_joined([(0, 9), (0, 9)], [(0, 9)])
        self.assert_joined([(None, None), (None, None)], [(None, None)])

    def test_without_a_least_number(self):
        self.assert_joined([(None, 3), (1, 5)], [(None, 5)])
        self.assert_joined([(None, 3), (4, 5)], [(None, 5)])
        self.assert_joined([(None, 3), (5, 6)], [(None, 3), (5, 6)])
        self.assert_joined([(None, -3), (None, 4)], [(None, 4)])
        self.assert_joined([(None, -3), (0, 0)], [(None, -3), (0, 0)])
        self.assert_joined([(None, 9), (-5, 6)], [(None, 9)])

    def test_without_a_greatest_number(self):
        self.assert_joined([(3, None), (1, 5)], [(1, None)])
        self.assert_joined([(6, None), (1, 5)], [(1, None)])
        self.assert_joined([(7, None), (1, 5)], [(1, 5), (7, None)])
        self.assert_joined([(3, None), (9, None)], [(3, None)])
        self.assert_joined([(3, None), (9, 10)], [(3, None)])

    def test_without_both(self):
        self.assert_joined([(None, None), (3, 5)], [(None, None)])
        self.assert_joined([(None, 3), (4, None)], [(None, None)])
        self.assert_joined([(None, 3), (2, None), (0, 1)], [(None, None)])
        self.assert_joined([(None, 3), (5, None)], [(None, 3), (5, None)])
        self.assert_joined([(None, 3), (5, None), (4, 4)], [(None, None)])

    def test_several(self):
        self.assert_joined([(10, 12), (0, 1), (3, 3), (5, 6), (7, 8)], [(0, 1), (3, 3), (5, 8), (10, 12)])

    def test_great_numbers(self):
        most = 10**14
        self.assert_joined([(-most, -1), (1, most)], [(-most, -1), (1, most)])
        self.assert_joined([(-most, 0), (1, most)], [(-most, most)])

    def test_the_list_that_is_passed_stays_as_it_was(self):
        passed = [(3, 4), (0, 1), (None, -9), (2, 2)]
        join_stretches(passed).clear()
        self.assertEqual(passed, [(3, 4), (0, 1), (None, -9), (2, 2)])

    def test_the_same_integers_and_no_others_with_an_integer_between_any_two(self):
        for seed in range(500):
            chance = random.Random(seed)
            stretches = []
            for _ in range(chance.randint(0, 6)):
                least = chance.randint(-15, 15)
                stretch = (least, least + chance.randint(0, 4))
                stretches.append(chance.choice([stretch] * 8 + [(None, least - 12), (least + 12, None)]))
            joined = join_stretches(stretches)
            for number in range(-60, 61):
                expected = any(
                    (least is None or least <= number) and (most is None or number <= most)
                    for least, most in stretches
                )
                self.assertEqual(holds_number(stretches, number), expected)
                self.assertEqual(holds_number(joined, number), expected)
            for (_, most), (least, _) in zip(joined, joined[1:]):
                self.assertGreater(least, most + 1)


class StretchOfTest(unittest.TestCase):
    def setUp(self):
        self.table = Table()
        for point in [A, B, C]:
            self.table.add_point(point)

    def test_in_both_directions(self):
        self.table.put_bound(A, B, 7)
        self.table.put_bound(B, A, -3)
        self.assertEqual(stretch_of(self.table, A, B), (3, 7))
        self.assertEqual(stretch_of(self.table, B, A), (-7, -3))

    def test_in_one_direction(self):
        self.table.put_bound(A, B, 7)
        self.assertEqual(stretch_of(self.table, A, B), (None, 7))
        self.assertEqual(stretch_of(self.table, B, A), (-7, None))

    def test_in_none(self):
        self.table.put_bound(A, B, 7)
        self.assertEqual(stretch_of(self.table, A, C), (None, None))

    def test_of_a_point_with_itself(self):
        self.assertEqual(stretch_of(self.table, A, A), (0, 0))

    def test_distances_of_0(self):
        self.table.put_bound(A, B, 0)
        self.table.put_bound(B, A, 0)
        self.table.put_bound(B, C, 0)
        self.assertEqual(stretch_of(self.table, A, B), (0, 0))
        self.assertEqual(stretch_of(self.table, A, C), (None, 0))

    def test_it_is_a_tuple_and_changes_nothing(self):
        self.table.put_bound(A, B, 7)
        self.assertIs(type(stretch_of(self.table, A, B)), tuple)
        self.assertEqual((self.table.points, self.table.distance(A, B), self.table.possible), ([A, B, C], 7, True))


class HoldsNumberTest(unittest.TestCase):
    def test_at_the_ends_and_one_beyond(self):
        for number, expected in [(-4, False), (-3, True), (0, True), (5, True), (6, False)]:
            self.assertIs(holds_number([(-3, 5)], number), expected)

    def test_a_stretch_of_one_number(self):
        for number, expected in [(-1, False), (0, True), (1, False)]:
            self.assertIs(holds_number([(0, 0)], number), expected)

    def test_ends_that_are_none(self):
        for number, expected in [(-10**15, True), (3, True), (4, False)]:
            self.assertIs(holds_number([(None, 3)], number), expected)
        for number, expected in [(2, False), (3, True), (10**15, True)]:
            self.assertIs(holds_number([(3, None)], number), expected)
        for number in [-10**15, 0, 10**15]:
            self.assertIs(holds_number([(None, None)], number), True)

    def test_in_one_of_several(self):
        stretches = [(None, -9), (-3, 0), (4, 4), (7, None)]
        held = [number for number in range(-12, 10) if holds_number(stretches, number)]
        self.assertEqual(held, [-12, -11, -10, -9, -3, -2, -1, 0, 4, 7, 8, 9])
        self.assertEqual(stretches, [(None, -9), (-3, 0), (4, 4), (7, None)])

    def test_no_stretch(self):
        self.assertIs(holds_number([], 0), False)


if __name__ == "__main__":
    unittest.main()
