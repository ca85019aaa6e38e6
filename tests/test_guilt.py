"""Point [32]: which parts are surely broken, and which are surely right."""

import copy
import itertools
import random
import unittest

from tests.reference import distances_of, named_in
from tests.samples import fields_of
from tests.worlds import lived_world, small_frame
from whensure.bounds.bounds import view_bounds
from whensure.choices import guilt as module
from whensure.choices.guilt import guilt_of, view_guilt
from whensure.frame.frame import Frame
from whensure.story.events import first_view

START = (-1, 0, -1)
A, B, C, D = (0, 0, -1), (0, 1, -1), (1, 0, -1), (1, 5, -1)
TICK, TOCK = (0, 1, 0), (1, 5, 1)


def between(first, second, least, most, part):
    """Return the bounds by which the second point is from least to most later than the first one."""
    return [(first, second, most, part), (second, first, -least, part)]


# Three parts that say where A is, of which the last one cannot be right if another one is.
THREE = [*between(START, A, 10, 12, 0), *between(START, A, 11, 13, 1), *between(START, A, 20, 21, 2)]
# Two that say nearly the same, and one that says less than each of them.
WIDE = [*between(START, A, 10, 12, 0), *between(START, A, 11, 13, 1), *between(START, A, 5, 30, 2)]


class GuiltTest(unittest.TestCase):
    def test_they_are_defined_here(self):
        for function in [guilt_of, view_guilt]:
            self.assertEqual(function.__module__, module.__name__)

    def test_no_choice_is_possible(self):
        self.assertIsNone(guilt_of(THREE, 3, 0))
        self.assertIsNone(guilt_of([*THREE, *between(START, A, 30, 30, 3)], 4, 1))
        self.assertIsNone(guilt_of([(A, A, -1, -1)], 3, 3))
        self.assertIsNone(guilt_of([(A, B, -1, -1), (B, A, 0, -1)], 3, 1))

    def test_more_faults_than_parts(self):
        self.assertIsNone(guilt_of([], 1, 2))
        self.assertIsNone(guilt_of(THREE, 3, 4))

    def test_kinds_of_values(self):
        guilt = guilt_of(THREE, 3, 1)
        self.assertIs(type(guilt), tuple)
        self.assertEqual([type(part) for part in guilt], [list, list])

    def test_no_faults(self):
        self.assertEqual(guilt_of(WIDE, 3, 0), ([], [0, 1, 2]))
        self.assertEqual(guilt_of([], 3, 0), ([], [0, 1, 2]))
        self.assertEqual(guilt_of([], 0, 0), ([], []))

    def test_surely_broken_and_in_no_possible_choice(self):
        self.assertEqual(guilt_of(THREE, 3, 1), ([2], [0, 1]))

    def test_its_bounds_say_more(self):
        self.assertEqual(guilt_of(THREE, 3, 2), ([], []))
        self.assertEqual(guilt_of(WIDE, 3, 1), ([], [2]))

    def test_its_bounds_say_as_much(self):
        bounds = [*between(START, A, 10, 12, 0), *between(START, A, 10, 12, 1)]
        self.assertEqual(guilt_of(bounds, 2, 1), ([], [0, 1]))

    def test_its_bounds_say_less(self):
        self.assertEqual(guilt_of(WIDE, 3, 1)[1], [2])
        bounds = [*between(START, A, 10, 12, -1), (START, A, 13, 0)]
        self.assertEqual(guilt_of(bounds, 2, 1), ([], [0, 1]))

    def test_its_bounds_say_more_in_one_direction(self):
        self.assertEqual(guilt_of([*between(START, A, 10, 12, -1), (START, A, 11, 0)], 2, 1), ([], [1]))
        self.assertEqual(guilt_of([*between(START, A, 10, 12, -1), (A, START, -11, 0)], 2, 1), ([], [1]))

    def test_the_others_give_no_distance(self):
        self.assertEqual(guilt_of([(A, B, 10**15, 0)], 2, 1), ([], [1]))
        self.assertEqual(guilt_of([(A, B, 5, 0), (B, A, 5, -1)], 2, 1), ([], [1]))
        self.assertEqual(guilt_of([(A, B, 5, 0), (C, D, 1, -1)], 2, 1), ([], [1]))

    def test_the_others_by_a_chain(self):
        chain = [(A, C, 2, -1), (C, D, 3, 1), (D, B, -1, -1)]
        self.assertEqual(guilt_of([*chain, (A, B, 4, 0)], 2, 1), ([], [0]))
        self.assertEqual(guilt_of([*chain, (A, B, 3, 0)], 2, 1), ([], []))

    def test_what_it_says_by_a_chain_of_its_own(self):
        own = [(A, C, 2, 0), (C, B, 2, 0)]
        others = [(A, C, 2, -1), (C, B, 2, -1), (A, B, 3, -1)]
        self.assertEqual(guilt_of([*own, *others], 2, 1), ([], [0, 1]))
        # The others give each bound's own distance, but not that of the chain.
        apart = [(A, C, 2, 1), (C, D, 1, 1), (D, B, 2, 1)]
        self.assertEqual(guilt_of([*own, *apart, (C, B, 2, -1)], 2, 1), ([], [0]))
        self.assertEqual(guilt_of([*own, *apart], 2, 1), ([], []))

    def test_its_own_bounds_are_impossible(self):
        own = [*between(A, B, 2, 1, 0)]
        self.assertEqual(guilt_of(own, 2, 1), ([0], [1]))
        self.assertEqual(guilt_of([*own, *between(A, B, 1, 1, -1)], 2, 1), ([0], [1]))
        self.assertEqual(guilt_of([*between(TICK, TOCK, 2, 1, 1), *between(A, B, 1, 1, -1)], 2, 1), ([1], [0]))

    def test_a_part_without_bounds(self):
        self.assertEqual(guilt_of([], 3, 1), ([], [0, 1, 2]))
        self.assertEqual(guilt_of([], 2, 2), ([0, 1], [0, 1]))
        self.assertEqual(guilt_of(THREE, 4, 1), ([2], [0, 1, 3]))

    def test_as_many_faults_as_parts(self):
        self.assertEqual(guilt_of(THREE, 3, 3), ([0, 1, 2], []))

    def test_two_faults_with_a_part_that_is_surely_broken(self):
        bounds = [*between(A, B, 2, 1, 1), *between(START, A, 10, 12, 0), *between(START, A, 20, 21, 2)]
        self.assertEqual(guilt_of(bounds, 3, 2), ([1], []))
        self.assertEqual(guilt_of(bounds, 4, 2), ([1], [3]))

    def test_each_possible_choice_counts_with_what_it_leaves(self):
        # Part 0 adds nothing to part 1, but something to the others if part 1 is chosen with it.
        bounds = [(A, B, 5, 0), (A, B, 5, 1), (A, B, 9, -1)]
        self.assertEqual(guilt_of(bounds, 3, 1), ([], [0, 1, 2]))
        self.assertEqual(guilt_of(bounds, 3, 2), ([], [2]))

    def test_ticks_are_not_looked_at(self):
        self.assertEqual(guilt_of([*between(A, TICK, 0, 5, 0)], 1, 1), ([0], [0]))
        self.assertEqual(guilt_of([*between(TICK, TOCK, 1, 5, 0), *between(A, TICK, 1, 1, 0)], 2, 1), ([], [0, 1]))

    def test_chains_lead_through_ticks(self):
        own = [(A, TICK, 3, 0), (TICK, B, 4, 0)]
        self.assertEqual(guilt_of(own, 2, 1), ([], [1]))
        self.assertEqual(guilt_of([*own, (A, B, 8, -1)], 2, 1), ([], [1]))
        self.assertEqual(guilt_of([*own, (A, B, 7, -1)], 2, 1), ([], [0, 1]))
        self.assertEqual(guilt_of([*own, (A, TOCK, 3, 1), (TOCK, B, 4, 1)], 2, 1), ([], [0, 1]))

    def test_the_beginning_is_looked_at(self):
        self.assertEqual(guilt_of([(START, TICK, 3, 0), (TICK, B, 4, 0)], 2, 1), ([], [1]))
        self.assertEqual(guilt_of([(START, TICK, 3, 0), (TICK, B, 4, 0), (START, B, 7, -1)], 2, 1), ([], [0, 1]))

    def test_both_lists_ascend(self):
        bounds = [*between(A, B, 2, 1, 3), *between(A, B, 2, 1, 1)]
        self.assertEqual(guilt_of(bounds, 5, 2), ([1, 3], [0, 2, 4]))

    def test_what_is_passed_stays_as_it_was(self):
        bounds = list(WIDE)
        broken, right = guilt_of(bounds, 3, 1)
        broken.append(9)
        right.clear()
        self.assertEqual(bounds, WIDE)
        self.assertEqual(guilt_of(bounds, 3, 1), ([], [2]))


def plain_guilt(bounds, parts, faults):
    """Return what guilt_of must return, by the words of point [32] and with distances that are found in another way."""
    points = named_in(bounds)
    possible = {}
    for choice in itertools.combinations(range(parts), faults):
        found = distances_of(points, [bound for bound in bounds if bound[3] not in choice])
        if found is not None:
            possible[choice] = found
    if not possible:
        return None
    right = []
    for part in range(parts):
        mine = [bound for bound in bounds if bound[3] == part]
        own = distances_of(named_in(mine), mine)
        if all(
            own is not None and all(
                found.get(pair, amount + 1) <= amount
                for pair, amount in own.items() if pair[0][2] == pair[1][2] == -1
            )
            for choice, found in possible.items() if part in choice
        ):
            right.append(part)
    return [part for part in range(parts) if all(part in choice for choice in possible)], right


class ManyTest(unittest.TestCase):
    def test_random_bounds(self):
        seen = {"none": 0, "broken": 0, "some right": 0}
        for seed in range(600):
            chance = random.Random(seed)
            points = chance.sample([START, A, B, C, D, TICK, TOCK], 4)
            parts = chance.randint(1, 4)
            bounds = [
                (*chance.sample(points, 2), chance.randint(-2, 9), chance.choice([-1, *range(parts)]))
                for _ in range(chance.randint(1, 14))
            ]
            faults = chance.randint(0, min(2, parts))
            expected = plain_guilt(bounds, parts, faults)
            self.assertEqual(guilt_of(bounds, parts, faults), expected, (bounds, parts, faults))
            seen["none"] += expected is None
            seen["broken"] += expected is not None and expected[0] != []
            seen["some right"] += expected is not None and 0 < len(expected[1]) < parts
        self.assertGreater(min(seen.values()), 40, seen)


class ViewGuiltTest(unittest.TestCase):
    def test_births_only(self):
        for faults in range(3):
            frame = small_frame(random.Random(1), faults)
            right = list(range(frame.part_count))
            self.assertEqual(view_guilt(frame, first_view(frame)), ([], right))

    def test_three_sources(self):
        for faults, expected in [(0, None), (1, ([2], [0, 1])), (2, ([], []))]:
            frame = Frame(["a"], [], [], [(name, 0, (("k", 1, 1),)) for name in ("s", "t", "u")], faults)
            view = first_view(frame)
            for number, value in enumerate([10, 11, 2]):
                view[0].append((False, (), (), ("mark", number, 0, value), (number + 2,)))
            self.assertEqual(view_guilt(frame, view), expected)

    def test_the_bounds_the_parts_and_the_faults_of_the_view(self):
        for seed in range(25):
            chance = random.Random(seed)
            frame = small_frame(chance, chance.randint(0, 2), sources=2)
            broken = tuple(chance.sample(range(frame.part_count), frame.faults))
            world = lived_world(chance, frame, 30, broken)
            copied = copy.deepcopy(world.view)
            fields = copy.deepcopy(fields_of(frame))
            guilt = view_guilt(frame, world.view)
            self.assertEqual(guilt, plain_guilt(view_bounds(frame, world.view), frame.part_count, frame.faults))
            self.assertLessEqual(set(guilt[0]), set(broken))
            self.assertEqual((world.view, fields_of(frame)), (copied, fields))


if __name__ == "__main__":
    unittest.main()
