"""Point [31], with points [5], [24] and [28]: what is told of two points, and of two events of a view."""

import copy
import itertools
import random
import unittest

from tests.reference import can_be_later
from tests.samples import fields_of
from tests.worlds import lived_world, small_frame
from whensure.bounds.bounds import view_bounds
from whensure.bounds.points import event_point
from whensure.choices import told as module
from whensure.choices.choices import all_choices, bounds_left
from whensure.choices.stretches import holds_number, join_stretches
from whensure.choices.told import told_between, view_between
from whensure.errors import NotKept
from whensure.frame.frame import BEGINNING, Frame
from whensure.story.events import first_view

START = (-1, 0, -1)
A, B, C, D = (0, 0, -1), (0, 1, -1), (0, 2, -1), (0, 3, -1)


def between(first, second, least, most, part):
    """Return the bounds by which the second point is from least to most later than the first one."""
    return [(first, second, most, part), (second, first, -least, part)]


THREE = [*between(A, B, 10, 12, 0), *between(A, B, 11, 13, 1), *between(A, B, 20, 21, 2)]


class ToldBetweenTest(unittest.TestCase):
    def test_they_are_defined_here(self):
        for function in [told_between, view_between]:
            self.assertEqual(function.__module__, module.__name__)

    def test_no_choice_is_possible(self):
        self.assertEqual(told_between(THREE, [()], A, B), [])
        self.assertEqual(told_between(THREE, [()], A, A), [])
        self.assertEqual(told_between(THREE, [()], C, D), [])

    def test_some_choices_are_possible(self):
        self.assertEqual(told_between(THREE, all_choices(3, 1), A, B), [(11, 12)])
        self.assertEqual(told_between(THREE, all_choices(3, 1), B, A), [(-12, -11)])

    def test_all_choices_are_possible(self):
        self.assertEqual(told_between(THREE, all_choices(3, 2), A, B), [(10, 13), (20, 21)])
        self.assertEqual(told_between(THREE, all_choices(3, 2), B, A), [(-21, -20), (-13, -10)])
        self.assertEqual(told_between(THREE, all_choices(3, 3), A, B), [(None, None)])

    def test_only_the_choices_that_are_passed(self):
        self.assertEqual(told_between(THREE, [(0, 1), (0, 2)], A, B), [(11, 13), (20, 21)])
        self.assertEqual(told_between(THREE, [(1, 2), (0, 2)], A, B), [(10, 13)])
        self.assertEqual(told_between(THREE, [], A, B), [])

    def test_stretches_ascend_whatever_the_order_of_the_choices(self):
        bounds = [*between(A, B, 30, 31, 0), *between(A, B, 20, 21, 1), *between(A, B, 10, 11, 2)]
        for choices in itertools.permutations(all_choices(3, 2)):
            self.assertEqual(told_between(bounds, list(choices), A, B), [(10, 11), (20, 21), (30, 31)])

    def test_stretches_without_ends(self):
        bounds = [(A, B, 5, 0), (B, A, -9, 1)]
        self.assertEqual(told_between(bounds, all_choices(2, 0), A, B), [])
        self.assertEqual(told_between(bounds, [(0,)], A, B), [(9, None)])
        self.assertEqual(told_between(bounds, [(1,)], A, B), [(None, 5)])
        self.assertEqual(told_between(bounds, [(0,), (1,)], A, B), [(None, 5), (9, None)])
        self.assertEqual(told_between(bounds, [(0, 1)], A, B), [(None, None)])

    def test_by_chains(self):
        bounds = [*between(A, C, 1, 2, -1), *between(C, B, 3, 5, 0), *between(A, D, 2, 2, 1), *between(D, B, 0, 5, 1)]
        self.assertEqual(told_between(bounds, [()], A, B), [(4, 7)])
        self.assertEqual(told_between(bounds, [(0,)], A, B), [(2, 7)])
        self.assertEqual(told_between(bounds, [(1,)], A, B), [(4, 7)])
        self.assertEqual(told_between(bounds, [(0, 1)], A, B), [(None, None)])

    def test_points_that_no_bound_names(self):
        bounds = between(A, B, 1, 2, 0)
        self.assertEqual(told_between(bounds, [()], C, D), [(None, None)])
        self.assertEqual(told_between(bounds, [()], A, D), [(None, None)])
        self.assertEqual(told_between(bounds, [()], D, A), [(None, None)])
        self.assertEqual(told_between([], [()], C, D), [(None, None)])

    def test_points_that_only_bounds_of_a_chosen_part_name(self):
        bounds = between(A, B, 1, 2, 0)
        self.assertEqual(told_between(bounds, [(0,)], A, B), [(None, None)])

    def test_the_same_point_twice(self):
        for point in [A, B, D]:
            self.assertEqual(told_between(between(A, B, 1, 2, 0), [(), (0,)], point, point), [(0, 0)])
        self.assertEqual(told_between([], [()], D, D), [(0, 0)])

    def test_points_that_are_ticks(self):
        tick = (0, 1, 0)
        self.assertEqual(told_between(between(A, tick, 1, 2, 0), [()], A, tick), [(1, 2)])

    def test_what_is_passed_stays_as_it_was(self):
        passed = (list(THREE), all_choices(3, 2))
        copied = copy.deepcopy(passed)
        told_between(*passed, A, B).clear()
        self.assertEqual(passed, copied)


def source_frame(faults):
    """Return a frame with two devices, three sources at the first one and links between them."""
    sources = [(name, 0, (("k", 1, 2),)) for name in ("s", "t", "u")]
    links = [("ab", 0, 1, (("k", 3, 4),)), ("ba", 1, 0, (("k", 0, None),))]
    return Frame(["a", "b"], [("c", 0, False, (("k", 10, 11),))], links, sources, faults)


def source_view(frame):
    """Return a view: three sources say something, a word goes to the second device, and one comes back."""
    view = first_view(frame)
    for number, deed in enumerate([("mark", 0, 0, 100), ("mark", 1, 0, 101), ("mark", 2, 0, 150)], start=1):
        view[0].append((False, (7,), (7,), deed, (number + 1, 1)))
    view[0].append((False, (9,), (9,), ("send", 0, 0), (5, 1)))
    view[1].append((False, (), (), ("hear", 0, 4), (5, 2)))
    view[1].append((True, (), (), ("send", 1, 0), (5, 3)))
    view[0].append((False, (9,), (9,), ("hear", 1, 2), (6, 3)))
    return view


class ViewBetweenTest(unittest.TestCase):
    def between(self, first, second, faults):
        """Return the answer for the view of the sources."""
        frame = source_frame(faults)
        return view_between(frame, source_view(frame), first, second)

    def test_the_beginning_on_either_side_and_on_both(self):
        self.assertEqual(self.between(BEGINNING, (0, 1), 1), [(99, 102)])
        self.assertEqual(self.between((0, 1), BEGINNING, 1), [(-102, -99)])
        self.assertEqual(self.between(BEGINNING, BEGINNING, 1), [(0, 0)])
        self.assertEqual(self.between(BEGINNING, (1, 0), 1), [(None, None)])

    def test_no_choice_is_possible(self):
        for first, second in [(BEGINNING, (0, 1)), (BEGINNING, BEGINNING), ((1, 0), (1, 1))]:
            self.assertEqual(self.between(first, second, 0), [])

    def test_the_bounds_and_the_choices_of_the_view(self):
        for faults in range(4):
            frame = source_frame(faults)
            view = source_view(frame)
            bounds = view_bounds(frame, view)
            choices = all_choices(frame.part_count, faults)
            events = [(0, number) for number in range(6)] + [(1, number) for number in range(3)] + [BEGINNING]
            for first, second in itertools.product(events, repeat=2):
                expected = told_between(bounds, choices, event_point(first), event_point(second))
                self.assertEqual(view_between(frame, view, first, second), expected)

    def test_a_word_and_a_clock(self):
        # One part must be broken anyway, since the sources differ; only a second one can be the link.
        self.assertEqual(self.between((0, 4), (1, 1), 1), [(3, 4)])
        self.assertEqual(self.between((0, 4), (1, 1), 2), [(0, None)])
        frame = source_frame(0)
        view = source_view(frame)
        del view[0][3:5], view[1][1:]
        view[0][3] = (False, (8,), (8,), ("note",), (4, 1))
        view[0].append((False, (9,), (9,), ("send", 0, 0), (5, 1)))
        view[1].append((False, (), (), ("hear", 0, 4), (5, 2)))
        self.assertEqual(view_between(frame, view, (0, 4), (1, 1)), [(3, 4)])
        self.assertEqual(view_between(frame, view, (0, 3), (0, 4)), [(0, 22)])

    def test_a_view_that_has_only_births(self):
        for faults in range(3):
            frame = source_frame(faults)
            view = first_view(frame)
            self.assertEqual(view_between(frame, view, (0, 0), (1, 0)), [(None, None)])
            self.assertEqual(view_between(frame, view, BEGINNING, (1, 0)), [(None, None)])
            self.assertEqual(view_between(frame, view, (1, 0), (1, 0)), [(0, 0)])
            self.assertEqual(view_between(frame, view, BEGINNING, BEGINNING), [(0, 0)])
            with self.assertRaises(NotKept):
                view_between(frame, view, (0, 0), (0, 1))

    def test_not_kept(self):
        too_great = [(0, 6), (1, 3), (0, 10**12), (2, 0), (99, 0)]
        below_0 = [(0, -1), (1, -3), (-2, 0), (-1, 1), (-1, -1), (-2, -2)]
        for wrong in too_great + below_0:
            pairs = [(wrong, (0, 1)), ((0, 1), wrong), (wrong, wrong), (BEGINNING, wrong), (wrong, (7, 7))]
            for first, second in pairs:
                for faults in [0, 1]:
                    with self.subTest((first, second)), self.assertRaises(NotKept):
                        self.between(first, second, faults)

    def test_the_last_event_of_each_device_is_in_the_view(self):
        self.assertEqual(self.between((0, 5), (0, 5), 1), [(0, 0)])
        self.assertEqual(self.between((1, 2), (1, 2), 1), [(0, 0)])

    def test_what_is_passed_stays_as_it_was(self):
        frame = source_frame(1)
        view = source_view(frame)
        view_between(frame, view, (0, 1), (1, 1)).clear()
        self.assertEqual(view, source_view(frame))
        self.assertEqual(fields_of(frame), fields_of(source_frame(1)))


class LivedViewsTest(unittest.TestCase):
    """Views of worlds in which as many parts as faults says are broken."""

    def lived(self, seed, steps):
        """Return a world, and some pairs of its events and the beginning."""
        chance = random.Random(seed)
        frame = small_frame(chance, chance.randint(0, 2), sources=2, links=1)
        world = lived_world(chance, frame, steps, tuple(chance.sample(range(frame.part_count), frame.faults)))
        events = [BEGINNING, *world.events()]
        return world, [chance.choices(events, k=2) for _ in range(4)]

    def test_the_true_difference_is_told(self):
        for seed in range(60):
            world, pairs = self.lived(seed, 40)
            for first, second in pairs:
                difference = world.instants[event_point(second)] - world.instants[event_point(first)]
                told = view_between(world.frame, world.view, first, second)
                self.assertTrue(holds_number(told, difference), (seed, first, second))

    def test_exactly_the_numbers_that_some_choice_allows_are_told(self):
        gaps = 0
        for seed in range(25):
            world, pairs = self.lived(seed, 25)
            bounds = view_bounds(world.frame, world.view)
            choices = all_choices(world.frame.part_count, world.frame.faults)
            first, second = pairs[0]
            told = view_between(world.frame, world.view, first, second)
            self.assertEqual(told, join_stretches(told))
            ends = [end for stretch in told for end in stretch if end is not None]
            tried = {end + step for end in ends for step in (-1, 0, 1)} | {-10**6, 0, 10**6}
            for number in tried:
                expected = any(
                    can_be_later(bounds_left(bounds, choice), event_point(first), event_point(second), number)
                    for choice in choices
                )
                self.assertEqual(holds_number(told, number), expected, (seed, number))
            gaps += len(ends) > 0
        self.assertGreater(gaps, 10)


if __name__ == "__main__":
    unittest.main()
