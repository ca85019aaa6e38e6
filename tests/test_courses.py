"""Points [56] to [58]: courses of views."""

import copy
import random
import unittest

from tests.reference import can_be_later
from tests.samples import fields_of
from tests.worlds import lived_world, small_frame
from whensure.bounds.bounds import view_bounds
from whensure.choices.choices import all_choices, bounds_left
from whensure.choices.stretches import holds_number
from whensure.choices.told import view_between
from whensure.courses import courses as module
from whensure.courses.courses import find_course, view_points
from whensure.errors import NotKept
from whensure.frame.frame import BEGINNING, Frame
from whensure.story.events import first_view

START = (-1, 0, -1)


def small_view(faults=0):
    """Return a frame and a view of it: two devices, a clock, two sources, and a word."""
    frame = Frame(
        ["a", "b"], [("c", 1, False, (("k", 9, 11),))],
        [("ab", 0, 1, (("k", 0, 5),)), ("ba", 1, 0, (("k", 0, None),))],
        [("s", 0, (("k", 1, 1),)), ("t", 1, (("k", 0, 0),))], faults,
    )
    view = first_view(frame)
    view[0] += [(False, (), (), ("mark", 0, 0, 100), (2, 1)), (False, (), (), ("send", 0, 0), (3, 1))]
    view[1] += [(False, (4,), (4,), ("hear", 0, 2), (3, 2)), (False, (6,), (6,), ("mark", 1, 0, 130), (3, 3))]
    return frame, view


class ViewPointsTest(unittest.TestCase):
    def test_they_are_defined_here(self):
        for function in [find_course, view_points]:
            self.assertEqual(function.__module__, module.__name__)

    def test_the_births(self):
        frame = Frame(["a", "b", "c"], [], [], [("s", 0, (("k", 0, 0),))], 0)
        self.assertEqual(view_points(frame, first_view(frame)), [START, (0, 0, -1), (1, 0, -1), (2, 0, -1)])

    def test_start_the_events_the_ticks(self):
        self.assertEqual(view_points(*small_view()), [
            START, (0, 0, -1), (0, 1, -1), (0, 2, -1), (1, 0, -1), (1, 1, -1), (1, 2, -1), (1, 1, 0), (1, 2, 0),
        ])

    def test_only_ticks_that_a_bound_names(self):
        frame, view = small_view()
        view[1].append((False, (6,), (6,), ("kind", 0, 0), (3, 4)))
        view[1].append((False, (6,), (6,), ("note",), (3, 5)))
        view[1].append((False, (5,), (5,), ("note",), (3, 6)))
        ticks = [point for point in view_points(frame, view) if point[2] == 0]
        self.assertEqual(ticks, [(1, 1, 0), (1, 2, 0), (1, 5, 0)])

    def test_the_order_of_the_bounds(self):
        frame = Frame(["a"], [("c", 0, False, (("k", 1, 2),)), ("d", 0, False, (("k", 1, 2),))], [], [], 0)
        view = first_view(frame)
        view[0] += [(False, (0, 0), (0, 0), ("note",), (2,)), (False, (1, 0), (1, 0), ("note",), (3,))]
        self.assertEqual(view_points(frame, view), [
            START, (0, 0, -1), (0, 1, -1), (0, 2, -1), (0, 1, 0), (0, 1, 1), (0, 2, 0),
        ])


class FindCourseTest(unittest.TestCase):
    def test_a_course_by_hand(self):
        frame, view = small_view()
        self.assertEqual(view_between(frame, view, (0, 2), (1, 1)), [(0, 5)])
        choice, instants = find_course(frame, view, (0, 2), (1, 1), 5)
        self.assertEqual(choice, ())
        at = dict(zip(view_points(frame, view), instants))
        self.assertEqual(at[START], 0)
        self.assertEqual(at[1, 1, -1] - at[0, 2, -1], 5)
        self.assertEqual(at[1, 2, -1], 130)

    def test_the_instants_are_the_times_of_the_table(self):
        frame = Frame(["a"], [], [], [("s", 0, (("k", 3, 4),))], 0)
        view = first_view(frame)
        view[0] += [(False, (), (), ("mark", 0, 0, 10), (2,)), (False, (), (), ("mark", 0, 0, 20), (3,))]
        # The distances from START: the first event 14, the second 24. Those to START: -7 and -17, so it is at -17.
        self.assertEqual(find_course(frame, view, BEGINNING, BEGINNING, 0), ((), [0, 14, 14, 17]))
        self.assertEqual(find_course(frame, view, BEGINNING, (0, 2), 20), ((), [0, 14, 14, 20]))
        self.assertEqual(find_course(frame, view, (0, 1), (0, 2), 4), ((), [0, 13, 13, 17]))
        self.assertEqual(find_course(frame, view, (0, 1), (0, 2), 17), ((), [0, 7, 7, 24]))
        self.assertIsNone(find_course(frame, view, (0, 1), (0, 2), 18))
        self.assertIsNone(find_course(frame, view, (0, 1), (0, 2), 2))

    def test_the_first_choice_in_order_that_has_one(self):
        frame, view = small_view(1)
        found = {}
        for number in range(-3, 60):
            course = find_course(frame, view, (0, 2), (1, 1), number)
            found.setdefault(None if course is None else course[0], []).append(number)
        # The clock, the link to b, and the sources can be broken; whoever is first explains the number.
        self.assertEqual(found, {
            None: [-3, -2, -1, *range(23, 60)], (0,): list(range(6)), (1,): list(range(6, 23)),
        })

    def test_the_same_event_twice(self):
        frame, view = small_view()
        for event in [BEGINNING, (0, 0), (1, 2)]:
            self.assertEqual(find_course(frame, view, event, event, 0)[0], ())
            for number in (-1, 1, 7):
                self.assertIsNone(find_course(frame, view, event, event, number))

    def test_no_choice_is_possible(self):
        frame, view = small_view()
        view[1].append((False, (6,), (6,), ("mark", 1, 0, 120), (3, 4)))
        self.assertEqual(view_between(frame, view, BEGINNING, (0, 1)), [])
        for number in [0, 100, 120]:
            self.assertIsNone(find_course(frame, view, BEGINNING, (0, 1), number))

    def test_not_kept(self):
        frame, view = small_view()
        for event in [(0, 3), (1, 3), (2, 0), (0, -1), (-1, 1), (-2, 0)]:
            for pair in [(event, BEGINNING), (BEGINNING, event), (event, event)]:
                with self.assertRaises(NotKept):
                    find_course(frame, view, *pair, 0)

    def test_what_is_passed_stays_as_it_was(self):
        frame, view = small_view(1)
        copied = copy.deepcopy(view)
        view_points(frame, view).clear()
        find_course(frame, view, (0, 1), (1, 1), 3)[1].clear()
        self.assertEqual((view, fields_of(frame)), (copied, fields_of(small_view(1)[0])))

    def test_births_only(self):
        frame = Frame(["a", "b"], [], [], [("s", 0, (("k", 0, 0),))], 0)
        self.assertEqual(find_course(frame, first_view(frame), (0, 0), (1, 0), -7), ((), [0, 0, -7]))
        self.assertEqual(find_course(frame, first_view(frame), (0, 0), (1, 0), 7), ((), [0, -7, 0]))


class DrawnTest(unittest.TestCase):
    def test_courses_of_the_numbers_that_are_possible(self):
        found = {True: 0, False: 0}
        for seed in range(90):
            chance = random.Random(seed)
            frame = small_frame(chance, chance.randint(0, 2), clocks=2)
            broken = tuple(chance.sample(range(frame.part_count), chance.randint(0, 2)))
            world = lived_world(chance, frame, 15, broken)
            first, second = chance.choice(world.events()), chance.choice([BEGINNING, *world.events()])
            stretches = view_between(frame, world.view, first, second)
            ends = [end for stretch in stretches for end in stretch if end is not None] or [0]
            for number in {chance.choice(ends) + chance.randint(-2, 2) for _ in range(6)}:
                course = find_course(frame, world.view, first, second, number)
                self.assertEqual(course is not None, holds_number(stretches, number), seed)
                found[course is not None] += 1
                self.check(frame, world.view, first, second, number, course)
        self.assertGreater(min(found.values()), 60, found)

    def check(self, frame, view, first, second, number, course):
        """Check that a course is one, and that no choice before its own has one."""
        bounds = view_bounds(frame, view)
        points = view_points(frame, view)
        for choice in all_choices(frame.part_count, frame.faults):
            if course is not None and choice == course[0]:
                at = dict(zip(points, course[1], strict=True))
                self.assertEqual(at[START], 0)
                self.assertEqual(at[*second, -1] - at[*first, -1], number)
                for start, end, amount, _ in bounds_left(bounds, choice):
                    self.assertLessEqual(at[end] - at[start], amount)
                return
            self.assertFalse(can_be_later(bounds_left(bounds, choice), (*first, -1), (*second, -1), number))


if __name__ == "__main__":
    unittest.main()
