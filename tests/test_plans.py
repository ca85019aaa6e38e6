"""Points [54] and [55]: plans, and by how much their deeds miss."""

import itertools
import random
import unittest

from tests.reference import can_be_later, distances_of, named_in
from tests.stories import AB, three_frame, watch_state
from whensure.bounds.bounds import view_bounds
from whensure.bounds.points import event_point
from whensure.choices.choices import all_choices, bounds_left
from whensure.errors import BeginAnewFirst, InvalidPlan, InvalidShown, NotKept, UnknownItem
from whensure.frame.frame import BEGINNING, Frame
from whensure.story.events import first_view
from whensure.watch.watch import Watch


def clocks_watch(*kinds, faults=0, goes_on=False):
    """Return the watch of a device with a clock for each pair of low and high, and all of them told to begin at 0."""
    clocks = [(f"c{at}", 0, goes_on, (("k", *kind),)) for at, kind in enumerate(kinds)]
    watch = Watch(Frame(["a"], clocks, [], [("s", 0, (("k", 0, 0),))], faults), 0)
    watch.anew([0] * len(kinds), [0] * len(kinds))
    return watch


class MissesTest(unittest.TestCase):
    def test_one_clock(self):
        watch = clocks_watch((9, 11))
        self.assertEqual(watch.misses([0], [(0, 5)], 1, (0, 1), 0, True), (45, 55))
        self.assertEqual(watch.misses([0], [(0, 5)], 1, (0, 1), 50, True), (-5, 5))
        self.assertEqual(watch.misses([3], [(0, 5)], 1, (0, 1), 0, True), (45, 55))
        self.assertEqual(watch.misses([4], [(0, 5)], 1, (0, 1), 100, True), (-55, -45))

    def test_the_unit_that_runs_now(self):
        watch = clocks_watch((9, 11))
        watch.pin((0, 1))
        watch.note([3])
        # It comes to 4 at most 11 later, and not before now; then a whole unit follows.
        self.assertEqual(watch.misses([3], [(0, 4)], 1, (0, 2), 0, True), (0, 11))
        self.assertEqual(watch.misses([3], [(0, 5)], 1, (0, 2), 0, True), (9, 22))
        # Now it shows 4, and came to it after the event.
        self.assertEqual(watch.misses([4], [(0, 5)], 1, (0, 2), 0, True), (9, 22))
        self.assertEqual(watch.misses([4], [(0, 6)], 1, (0, 2), 0, True), (18, 33))

    def test_count_of_several(self):
        watch = clocks_watch((9, 11), (1, 30), (4, 4))
        plan = [(0, 2), (1, 2), (2, 5)]
        # They come from 18 to 22, from 2 to 60, and at 20.
        for count, expected in [(1, (2, 20)), (2, (18, 22)), (3, (20, 60))]:
            for order in itertools.permutations(plan):
                self.assertEqual(watch.misses([0, 0, 0], list(order), count, (0, 1), 0, True), expected)

    def test_asleep(self):
        watch = clocks_watch((9, 11), (10, 10))
        self.assertEqual(watch.misses([0, 0], [(0, 5)], 1, (0, 1), 0, False), (0, None))
        self.assertEqual(watch.misses([0, 0], [(0, 5), (1, 3)], 1, (0, 1), 7, False), (-7, None))
        self.assertEqual(watch.misses([0, 0], [(0, 5), (1, 3)], 2, (0, 1), 7, False), (-7, None))

    def test_asleep_with_a_clock_that_goes_on(self):
        watch = clocks_watch((9, 11), (10, 10), goes_on=True)
        self.assertEqual(watch.misses([0, 0], [(0, 5), (1, 3)], 1, (0, 1), 0, False), (30, 30))
        frame = Frame(["a"], [("c", 0, False, (("k", 9, 11),)), ("d", 0, True, (("k", 10, 10),))], [], [], 0)
        mixed = Watch(frame, 0)
        mixed.anew([0, 0], [0, 0])
        self.assertEqual(mixed.misses([0, 0], [(0, 5), (1, 3)], 1, (0, 1), 0, False), (0, 30))
        self.assertEqual(mixed.misses([0, 0], [(0, 5), (1, 3)], 2, (0, 1), 0, False), (30, None))

    def test_over_all_choices(self):
        watch = clocks_watch((10, 10), (20, 20), (30, 30), faults=1)
        plan = [(0, 1), (1, 1), (2, 1)]
        self.assertEqual(watch.misses([0, 0, 0], plan, 1, (0, 1), 0, True), (0, 20))
        self.assertEqual(watch.misses([0, 0, 0], plan, 2, (0, 1), 0, True), (10, 30))
        self.assertEqual(watch.misses([0, 0, 0], plan, 3, (0, 1), 0, True), (20, None))

    def test_a_choice_that_now_makes_impossible_does_not_count(self):
        watch = clocks_watch((10, 10), (10, 10), (10, 10), faults=1)
        self.assertEqual(watch.misses([5, 5, 9], [(0, 9), (1, 9)], 2, (0, 1), 0, True), (90, 90))
        self.assertEqual(watch.misses([5, 5, 9], [(2, 19)], 1, (0, 1), 0, True), (50, None))

    def test_no_choice(self):
        watch = clocks_watch((10, 10), (10, 10))
        self.assertEqual(watch.misses([5, 9], [(0, 99)], 1, (0, 1), 3, True), (None, None))
        watch.note([5, 9])
        self.assertEqual(watch.misses([5, 9], [(0, 99)], 1, (0, 2), 3, True), (None, None))

    def test_no_end(self):
        watch = clocks_watch((9, 11))
        self.assertEqual(watch.misses([1], [(0, 5)], 1, BEGINNING, 3, True), (None, None))
        free = Watch(Frame(["a"], [("c", 0, False, (("k", 9, 11),))], [], [("s", 0, (("k", 0, 0),))], 1), 0)
        free.mark([0], 0, 0, 100)
        self.assertEqual(free.misses([0], [(0, 1)], 1, BEGINNING, 0, True), (None, None))
        sure = Watch(Frame(["a"], [("c", 0, False, (("k", 9, 11),))], [], [("s", 0, (("k", 0, 0),))], 0), 0)
        sure.mark([0], 0, 0, 100)
        self.assertEqual(sure.misses([0], [(0, 3)], 1, BEGINNING, 100, False), (0, None))
        self.assertEqual(sure.misses([0], [(0, 3)], 1, BEGINNING, 100, True), (18, 33))

    def test_by_the_kind_by_which_it_runs(self):
        watch = Watch(three_frame(), 0)
        watch.tell_kind([4], 0, 1)
        self.assertEqual(watch.misses([4], [(0, 14)], 1, (0, 1), 0, True), (10, 20))

    def test_four_clocks(self):
        watch = clocks_watch(*[(number, number) for number in range(1, 6)])
        plan = [(clock, 2) for clock in (4, 2, 1, 3)]
        self.assertEqual(watch.misses([0] * 5, plan, 3, (0, 1), 0, True), (8, 8))

    def test_a_birth_without_hands(self):
        watch = Watch(three_frame(), 0)
        self.assertEqual(watch.misses([0], [(0, 2)], 1, (0, 0), 0, True), (9, None))


class ErrorsTest(unittest.TestCase):
    def refused(self, error, *passed, owes=False):
        """Check that misses raises an error and changes nothing."""
        watch = clocks_watch((1, 1), (1, 1), (1, 1), (1, 1), (1, 1))
        watch.owes = owes
        before = watch_state(watch)
        with self.assertRaises(error):
            watch.misses(*passed)
        self.assertEqual(watch_state(watch), before)

    def test_each_error_and_their_order(self):
        shown, plan, event = [0] * 5, [(0, 9)], (0, 1)
        for owes, wrong_shown, wrong_clock, wrong_event, wrong_plan in itertools.product([False, True], repeat=5):
            passed = (
                shown[1:] if wrong_shown else shown,
                [(5, 9)] if wrong_clock else [*plan, (0, 0)] if wrong_plan else plan,
                2 if wrong_clock and wrong_plan else 1,
                (0, 0) if wrong_event else event,
                0, True,
            )
            for wrong, error in [
                (owes, BeginAnewFirst), (wrong_shown, InvalidShown), (wrong_clock, UnknownItem), (wrong_event, NotKept),
                (wrong_plan, InvalidPlan),
            ]:
                if wrong:
                    self.refused(error, *passed, owes=owes)
                    break

    def test_unknown_clocks(self):
        for clock in [-1, -5, 5, 9]:
            for plan in [[(clock, 9)], [(0, 9), (clock, 9)], [(clock, 9), (0, 0)]]:
                self.refused(UnknownItem, [0] * 5, plan, 1, (0, 1), 0, True)
        watch = Watch(three_frame(), 0)
        with self.assertRaises(UnknownItem):
            watch.misses([0], [(1, 9)], 1, BEGINNING, 0, True)

    def test_plans_that_are_none(self):
        for plan in [
            [], [(0, 9), (0, 9)], [(0, 9), (1, 9), (0, 8)], [(at, 9) for at in range(5)], [(0, 0)], [(0, -1)],
            [(0, 9), (1, 0)],
        ]:
            for count in (1, len(plan)):
                self.refused(InvalidPlan, [0] * 5, plan, count, (0, 1), 0, True)
        self.refused(InvalidPlan, [0, 0, 7, 0, 0], [(2, 7)], 1, (0, 1), 0, True)

    def test_counts(self):
        for plan in [[(0, 9)], [(0, 9), (3, 9)], [(at, 9) for at in range(4)]]:
            for count in [-1, 0, len(plan) + 1, 99]:
                self.refused(InvalidPlan, [0] * 5, plan, count, (0, 1), 0, True)

    def test_what_is_passed_stays_as_it_was(self):
        plan, shown = [(1, 5), (0, 4)], [0, 0]
        watch = clocks_watch((1, 1), (1, 2))
        before = watch_state(watch)
        watch.misses(shown, plan, 1, (0, 1), 0, True)
        self.assertEqual((plan, shown, watch_state(watch)), ([(1, 5), (0, 4)], [0, 0], before))

    def test_an_event_that_is_live_only_by_a_word(self):
        watch = Watch(three_frame(), 0)
        watch.tell([0], AB)
        watch.note([1])
        self.assertEqual(watch.misses([1], [(0, 2)], 1, (0, 1), 0, True), (9, 22))


class DrawnTest(unittest.TestCase):
    def test_as_the_distances_of_all_bounds_say(self):
        ends = 0
        for seed in range(60):
            chance = random.Random(seed)
            many = chance.randint(1, 3)
            frame = Frame(
                ["a"],
                [(f"c{at}", 0, chance.random() < 0.3, (("k", 2, 3), ("l", 1, 5))) for at in range(many)],
                [], [("s", 0, (("k", 1, 1),))], chance.randint(0, 1),
            )
            watch, view, shown = Watch(frame, 0), first_view(frame), [0] * many
            for _ in range(chance.randint(0, 4)):
                shown = [number + chance.randint(0, 2) for number in shown]
                kind_deed = ("kind", chance.randrange(many), chance.randint(0, 1))
                deed = chance.choice([("note",), kind_deed, ("mark", 0, 0, 9)])
                if deed[0] == "note":
                    watch.note(shown)
                elif deed[0] == "kind":
                    watch.tell_kind(shown, deed[1], deed[2])
                else:
                    watch.mark(shown, 0, 0, 2 * shown[0])
                view[0].append(watch.last_made)
            shown = [number + chance.randint(0, 2) for number in shown]
            plan = [(clock, shown[clock] + chance.randint(1, 3)) for clock in chance.sample(range(many), many)]
            event, time, awake = chance.choice(watch.live), chance.randint(-3, 9), chance.random() < 0.7
            count = chance.randint(1, many)
            found = watch.misses(shown, plan, count, event, time, awake)
            hands = self.hands_then(watch, shown)
            view[0].append(watch.last_made)
            expected = self.stretch_by(frame, view, hands, plan, count, event, awake)
            self.assertEqual(found, tuple(None if end is None else end - time for end in expected), seed)
            ends += None not in found
        self.assertGreater(ends, 10)

    def hands_then(self, watch, shown):
        """Let the watch make the event that now would be, and return the hands after it."""
        watch.note(shown)
        return watch.known.hands_of(0)

    def stretch_by(self, frame, view, hands, plan, count, event, awake):
        """Return the stretch of the plan's deed by the distances that all bounds give."""
        now = (0, len(view[0]) - 1, -1)
        bounds = view_bounds(frame, view)
        for clock, number in plan:
            coming = ("coming", clock)
            bounds.append((coming, now, 0, -1))
            since, shown, kind = hands[clock]
            _, low, high = frame.clocks[clock][3][kind]
            gained = number - shown
            if awake or frame.clocks[clock][2]:
                bounds += [(since, coming, high * gained, clock), (coming, since, -low * gained, clock)]
                bounds += [(coming, now, -low * (gained - 1), clock)]
        lows, highs = [], []
        for choice in all_choices(frame.part_count, frame.faults):
            left = bounds_left(bounds, choice)
            points = list(dict.fromkeys([*named_in(left), event_point(event)]))
            distances = distances_of(points, left)
            if distances is not None:
                start = event_point(event)
                back = [distances.get((("coming", clock), start)) for clock, _ in plan]
                there = [distances.get((start, ("coming", clock))) for clock, _ in plan]
                lows.append(sorted([-10**9 if end is None else -end for end in back])[count - 1])
                highs.append(sorted([10**9 if end is None else end for end in there])[count - 1])
                self.assertTrue(can_be_later(left, start, start, 0))
        if not lows:
            return (None, None)
        least, greatest = min(lows), max(highs)
        return (None if least == -10**9 else least, None if greatest == 10**9 else greatest)


if __name__ == "__main__":
    unittest.main()
