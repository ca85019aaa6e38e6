"""Points [48] to [53]: order, and what is asked about now."""

import random
import unittest

from tests.runs import Run
from tests.stories import AB, three_frame, watch_state
from tests.worlds import small_frame
from whensure.errors import BeginAnewFirst, InvalidShown, NotKept, TooManyPins, UnknownCommit
from whensure.frame.frame import BEGINNING, Frame
from whensure.watch.asking import order_of
from whensure.watch.watch import Watch


def exact_watch(low=1, high=1, early=0, late=0, faults=0):
    """Return the watch of a device with a clock and a source, after the clock was told its kind at 0."""
    frame = Frame(
        ["a"], [("c", 0, False, (("k", low, high),))], [], [("s", 0, (("k", early, late),)), ("t", 0, (("k", 0, 0),))],
        faults,
    )
    watch = Watch(frame, 0)
    watch.tell_kind([0], 0, 0)
    return watch


def impossible_watch():
    """Return a watch that has no table any more, and pins its first mark."""
    watch = exact_watch()
    watch.mark([0], 0, 0, 50)
    watch.pin((0, 2))
    watch.mark([0], 0, 0, 40)
    return watch


class OrderTest(unittest.TestCase):
    def test_of_stretches(self):
        words = ["before", "at once", "after"]
        for stretches, expected in [
            ([], []), ([(0, 0)], words[1:2]), ([(1, 1)], words[:1]), ([(-1, -1)], words[2:]), ([(0, 1)], words[:2]),
            ([(-1, 0)], words[1:]), ([(-1, 1)], words), ([(-2, -1), (1, 2)], ["before", "after"]),
            ([(None, None)], words),
            ([(None, -1)], words[2:]), ([(None, 0)], words[1:]), ([(1, None)], words[:1]), ([(0, None)], words[:2]),
            ([(None, -5), (7, None)], ["before", "after"]), ([(None, 1)], words), ([(-1, None)], words),
        ]:
            self.assertEqual(order_of(stretches), expected, stretches)

    def test_of_events(self):
        watch = exact_watch()
        watch.pin((0, 1))
        watch.note([0])
        watch.pin((0, 2))
        watch.note([5])
        self.assertEqual(watch.order((0, 1), (0, 1)), ["at once"])
        self.assertEqual(watch.order((0, 1), (0, 2)), ["before", "at once"])
        self.assertEqual(watch.order((0, 2), (0, 1)), ["at once", "after"])
        self.assertEqual(watch.order((0, 1), (0, 3)), ["before"])
        self.assertEqual(watch.order((0, 3), (0, 1)), ["after"])
        self.assertEqual(watch.order(BEGINNING, (0, 1)), ["before", "at once", "after"])

    def test_without_a_table(self):
        watch = impossible_watch()
        self.assertEqual(watch.order((0, 2), (0, 3)), [])
        self.assertEqual(watch.order(BEGINNING, BEGINNING), [])

    def test_not_kept(self):
        for watch in [exact_watch(), impossible_watch()]:
            for event in [(0, 0), (0, 9), (1, 0), (-1, 1)]:
                for pair in [(event, BEGINNING), (BEGINNING, event)]:
                    with self.assertRaises(NotKept):
                        watch.order(*pair)

    def test_a_watch_that_owes_a_beginning_answers(self):
        watch = exact_watch()
        watch.owes = True
        self.assertEqual(watch.order((0, 1), (0, 1)), ["at once"])


class MissTest(unittest.TestCase):
    def test_the_greatest_distance(self):
        watch = exact_watch(9, 11)
        self.assertEqual(watch.between((0, 1), (0, 1)), [(0, 0)])
        # 5 units take from 45 to 55 instants, and up to 11 more are gone of the next one.
        for time, expected in [(0, 66), (45, 21), (55, 11), (56, 11), (60, 15), (66, 21), (100, 55), (-10, 76)]:
            self.assertEqual(watch.miss([5], (0, 1), time), expected, time)

    def test_no_greatest(self):
        watch = exact_watch()
        watch.note([1])
        self.assertIsNone(watch.miss([2], BEGINNING, 5))
        free = Watch(three_frame(), 2)
        free.note([])
        self.assertIsNone(free.miss([], (2, 1), 5))

    def test_the_empty_list(self):
        watch = impossible_watch()
        self.assertIsNone(watch.miss([1], (0, 2), 5))
        lost = exact_watch()
        lost.note([5])
        self.assertIsNone(lost.miss([4], (0, 2), 0))
        self.assertEqual(lost.choices, [()])

    def test_over_several_stretches(self):
        sources = [(name, 0, (("k", 0, 0),)) for name in ("s", "t")]
        clocks = [(name, 0, False, (("k", 1, 1),)) for name in ("c", "d")]
        watch = Watch(Frame(["a"], clocks, [], sources, 1), 0)
        watch.anew([0, 0], [0, 0])
        watch.mark([0, 0], 0, 0, 10)
        watch.mark([0, 0], 1, 0, 50)
        self.assertEqual(watch.between(BEGINNING, (0, 3)), [(10, 11), (50, 50)])
        for time, expected in [(0, 51), (10, 41), (30, 21), (31, 21), (32, 22), (70, 60)]:
            self.assertEqual(watch.miss([0, 0], BEGINNING, time), expected, time)


class StampTest(unittest.TestCase):
    def test_the_greatest_number_of_now(self):
        watch = exact_watch(9, 11, 1, 2)
        watch.mark([0], 0, 0, 100)
        self.assertEqual(watch.stamp([0]), 111 + 2)
        self.assertEqual(watch.stamp([1]), 124)
        self.assertEqual(watch.commit([1]), ((0, 3), 124))

    def test_none(self):
        watch = exact_watch()
        self.assertIsNone(watch.stamp([0]))
        self.assertIsNone(impossible_watch().stamp([0]))


class DoneTest(unittest.TestCase):
    def committed(self):
        """Return a watch that committed with the stamp 101, when its clock showed 0."""
        watch = exact_watch(1, 1)
        watch.mark([0], 0, 0, 100)
        self.assertEqual(watch.commit([0]), ((0, 3), 101))
        return watch

    def test_from_the_stamp_on(self):
        watch = self.committed()
        # The clock came to 0 at instant 99 or 100.
        for number, done in [(0, False), (1, False), (2, True), (3, True), (50, True)]:
            self.assertIs(watch.done([number], (0, 3)), done, number)

    def test_the_commit_need_not_be_kept(self):
        watch = self.committed()
        watch.note([1])
        watch.note([1])
        self.assertNotIn((0, 3), watch.live)
        self.assertIs(watch.done([1], (0, 3)), False)
        self.assertIs(watch.done([9], (0, 3)), True)

    def test_unknown_commits(self):
        watch = self.committed()
        for event in [(0, 0), (0, 1), (0, 2), (0, 4), (1, 3), (-1, 0)]:
            with self.assertRaises(UnknownCommit):
                watch.done([9], event)

    def test_the_empty_list(self):
        watch = self.committed()
        watch.mark([0], 0, 0, 300)
        self.assertEqual(watch.choices, [])
        self.assertIs(watch.done([500], (0, 3)), False)

    def test_no_least_number(self):
        watch = Watch(Frame(["a"], [("c", 0, False, (("k", 1, 1),))], [], [("s", 0, (("k", 0, 0),))], 1), 0)
        watch.mark([0], 0, 0, 5)
        watch.known.put_record((0, 2, (False, (0,), (0,), ("commit", -10**9), (3,))))
        watch.tables.put_bounds([((0, 2, -1), (0, 1, -1), 0, -1)])
        self.assertIs(watch.done([0], (0, 2)), False)

    def test_a_commit_of_another_device(self):
        a, b = Watch(three_frame(), 0), Watch(three_frame(), 1)
        a.mark([0], 0, 1, 100)
        event, stamp = a.commit([0])
        self.assertEqual((event, stamp), ((0, 2), 111))
        with self.assertRaises(UnknownCommit):
            b.done([0, 0], event)
        b.note([0, 0])
        b.hear([1, 2], a.send([0], AB, 0)[1])
        self.assertIs(b.done([1, 2], event), False)
        self.assertIs(b.done([21, 42], event), True)


class FrontTest(unittest.TestCase):
    def test_none_until_all_devices_are_heard_of(self):
        links = [("ab", 0, 1, (("k", 0, 3),)), ("ba", 1, 0, (("k", 0, 3),))]
        frame = Frame(["a", "b"], [], links, [("s", 0, (("k", 0, 0),))], 0)
        a, b = Watch(frame, 0), Watch(frame, 1)
        self.assertIsNone(a.front())
        a.mark([], 0, 0, 50)
        self.assertIsNone(a.front())
        b.hear([], a.send([], 0, 0)[1])
        self.assertEqual(b.front(), 50)
        a.hear([], b.send([], 1, 0)[1])
        self.assertEqual(a.front(), 50)
        a.mark([], 0, 0, 60)
        # The last known event of b came at most 3 before the word was heard, which was at most at 60.
        self.assertEqual(a.front(), 50)

    def test_the_least_of_all_devices(self):
        watch = exact_watch()
        watch.mark([0], 0, 0, 70)
        self.assertEqual(watch.front(), 70)
        watch.note([4])
        self.assertEqual(watch.front(), 73)

    def test_none_without_a_table(self):
        self.assertIsNone(impossible_watch().front())
        self.assertEqual(impossible_watch().log(), [])

    def test_the_log(self):
        watch = exact_watch()
        self.assertEqual(watch.log(), [])
        watch.mark([0], 0, 0, 70)
        first, second = watch.commit([0]), watch.commit([1])
        self.assertEqual((first, second), (((0, 3), 71), ((0, 4), 72)))
        self.assertEqual(watch.front(), 70)
        self.assertEqual(watch.log(), [])
        watch.mark([1], 1, 0, 71)
        self.assertEqual((watch.front(), watch.log()), (71, []))
        watch.mark([2], 1, 0, 72)
        self.assertEqual((watch.front(), watch.log()), (72, [first]))
        watch.mark([3], 1, 0, 73)
        self.assertEqual((watch.front(), watch.log()), (73, [first, second]))

    def test_the_log_ascends_by_stamp_then_device_then_number(self):
        links = [("ab", 0, 1, (("k", 0, None),)), ("ba", 1, 0, (("k", 0, None),))]
        clocks = [(name, at, False, (("k", 1, 1),)) for at, name in enumerate("cd")]
        sources = [(name, at, (("k", 0, 0),)) for at, name in enumerate("st")]
        a, b = [Watch(Frame(["a", "b"], clocks, links, sources, 0), device) for device in (0, 1)]
        a.mark([0], 0, 0, 110)
        b.mark([10], 1, 0, 110)
        commits = [a.commit([0]), b.commit([10]), a.commit([0]), b.commit([11])]
        self.assertEqual(commits, [((0, 2), 111), ((1, 2), 111), ((0, 3), 111), ((1, 3), 112)])
        b.mark([100], 1, 0, 200)
        a.mark([90], 0, 0, 200)
        early = a.log()
        a.hear([90], b.send([100], 1, 0)[1])
        self.assertEqual((early, a.front()), ([], 200))
        self.assertEqual(a.log(), [commits[0], commits[2], commits[1], commits[3]])

    def test_a_watch_that_owes_a_beginning_answers(self):
        watch = exact_watch()
        watch.mark([0], 0, 0, 70)
        watch.commit([0])
        watch.mark([5], 0, 0, 75)
        watch.owes = True
        self.assertEqual((watch.front(), watch.log()), (75, [((0, 3), 71)]))


class LeaseTest(unittest.TestCase):
    def test_the_edges(self):
        watch = exact_watch(9, 11)
        for time in range(40, 72):
            self.assertIs(watch.may_use([5], (0, 1), time), time >= 66, time)
            self.assertIs(watch.may_give([5], (0, 1), time), time < 45, time)

    def test_no_end(self):
        watch = Watch(three_frame(), 2)
        watch.note([])
        self.assertIs(watch.may_use([], (2, 1), 10**12), False)
        self.assertIs(watch.may_give([], (2, 1), -1), True)
        self.assertIs(watch.may_give([], (2, 1), 0), False)
        self.assertIs(watch.may_give([], BEGINNING, -10**12), False)

    def test_the_empty_list(self):
        watch = impossible_watch()
        self.assertIs(watch.may_use([0], (0, 2), 10**12), False)
        self.assertIs(watch.may_give([0], (0, 2), -10**12), False)


def questions(shown, event):
    """Return a call of each question about now and an event."""
    return {
        "miss": lambda watch: watch.miss(shown, event, 3),
        "may_use": lambda watch: watch.may_use(shown, event, 3),
        "may_give": lambda watch: watch.may_give(shown, event, 3),
        "misses": lambda watch: watch.misses(shown, [(0, 99)], 1, event, 3, True),
        "stamp": lambda watch: watch.stamp(shown),
        "done": lambda watch: watch.done(shown, event),
    }


class NowTest(unittest.TestCase):
    def marked(self):
        """Return a watch the second event of which is a commit that is still live."""
        watch = exact_watch()
        watch.mark([0], 0, 0, 100)
        watch.commit([0])
        return watch

    def test_nothing_changes(self):
        for name, call in questions([4], (0, 3)).items():
            watch = self.marked()
            before = watch_state(watch)
            answer = call(watch)
            self.assertEqual(watch_state(watch), before, name)
            self.assertEqual(call(watch), answer)
            self.assertIsNone(watch.last_made[3][2:] or None)

    def test_as_if_the_event_had_been_made(self):
        for number in (0, 1, 5):
            watch = self.marked()
            asked = [call(watch) for call in questions([number], (0, 3)).values()]
            after = self.marked()
            after.pin((0, 3))
            now = after.note([number])
            stretches = after.between((0, 3), now)
            self.assertEqual(asked[0], max(abs(stretches[0][0] - 3), abs(stretches[-1][1] - 3)))
            self.assertEqual(asked[1], stretches[-1][1] <= 3)
            self.assertEqual(asked[2], stretches[0][0] > 3)
            self.assertEqual(asked[4], after.between(BEGINNING, now)[-1][1])

    def test_an_event_that_is_not_kept(self):
        for event in [(0, 0), (0, 1), (0, 9), (1, 0), (-1, 1)]:
            for name, call in questions([4], event).items():
                watch = self.marked()
                watch.note([5])
                if name in ("miss", "may_use", "may_give", "misses"):
                    with self.assertRaises(NotKept):
                        call(watch)

    def test_now_itself_is_not_kept(self):
        watch = self.marked()
        for name in ("miss", "may_use", "may_give", "misses"):
            with self.assertRaises(NotKept):
                questions([4], (0, 4))[name](watch)

    def test_four_pins_besides(self):
        watch = exact_watch()
        for _ in range(4):
            watch.pin(watch.note([0]))
        event = watch.note([1])
        with self.assertRaises(TooManyPins):
            watch.pin(event)
        self.assertEqual(watch.miss([5], event, 0), 5)
        self.assertIs(watch.may_use([5], event, 5), True)
        self.assertIs(watch.may_give([5], event, 2), True)
        self.assertEqual(watch.misses([5], [(0, 9)], 1, event, 0, True), (7, 8))
        self.assertEqual(len(watch.pins), 4)

    def test_a_pinned_event(self):
        watch = exact_watch()
        watch.pin((0, 1))
        watch.note([3])
        watch.note([4])
        self.assertEqual(watch.miss([9], (0, 1), 0), 10)

    def test_the_beginning(self):
        watch = self.marked()
        self.assertEqual(watch.miss([4], BEGINNING, 100), 5)
        self.assertIs(watch.may_use([4], BEGINNING, 105), True)
        self.assertIs(watch.may_use([4], BEGINNING, 104), False)
        self.assertIs(watch.may_give([4], BEGINNING, 102), True)
        self.assertIs(watch.may_give([4], BEGINNING, 103), False)

    def test_a_watch_that_owes_a_beginning(self):
        for shown in ([4], []):
            for event in [(0, 3), (0, 9)]:
                for call in questions(shown, event).values():
                    watch = self.marked()
                    watch.owes = True
                    with self.assertRaises(BeginAnewFirst):
                        call(watch)

    def test_shown_of_another_length(self):
        for shown in ([], [4, 4]):
            for event in [(0, 3), (0, 9)]:
                for call in questions(shown, event).values():
                    with self.assertRaises(InvalidShown):
                        call(self.marked())

    def test_shown_stays_as_it_was(self):
        shown = [4]
        for call in questions(shown, (0, 3)).values():
            call(self.marked())
        self.assertEqual(shown, [4])


class DrawnTest(unittest.TestCase):
    def test_questions_return_what_note_would_lead_to(self):
        asked = 0
        for seed in range(200):
            chance = random.Random(seed)
            run = Run(small_frame(chance, chance.randint(0, 1), devices=2, clocks=3, sources=2), chance)
            for _ in range(40):
                run.step()
            device = chance.randrange(2)
            watch = run.watches[device]
            shown = [number + chance.choice([0, 1, 2, 9]) for number in run.shown(device)]
            event = chance.choice([event for event in watch.live if len(watch.pins) < 4 or event in watch.pins])
            time = chance.randint(-5, 20)
            answers = (
                watch.miss(shown, event, time), watch.stamp(shown), watch.may_use(shown, event, time),
                watch.may_give(shown, event, time),
            )
            watch.pin(event)
            now = watch.note(shown)
            numbers = watch.between(event, now)
            instants = watch.between(BEGINNING, now)
            ends = [end for stretch in numbers for end in stretch]
            self.assertEqual(answers, (
                None if not ends or None in ends else max(abs(end - time) for end in ends),
                instants[-1][1] if instants else None,
                bool(numbers) and numbers[-1][1] is not None and numbers[-1][1] <= time,
                bool(numbers) and numbers[0][0] is not None and numbers[0][0] > time,
            ))
            asked += bool(ends) and None not in ends
        self.assertGreater(asked, 40)


if __name__ == "__main__":
    unittest.main()
