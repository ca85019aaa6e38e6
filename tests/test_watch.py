"""Points [38] to [42]: what a watch keeps, and what it returns about it."""

import itertools
import unittest

from tests.runs import answers_by_view
from tests.samples import fields_of
from tests.stories import AB, BA, three_frame
from whensure.errors import NotKept, NotPinned, TooManyPins, UnknownItem
from whensure.frame.frame import BEGINNING, Frame
from whensure.story.events import first_view
from whensure.watch import watch as module
from whensure.watch.watch import Watch

METHODS = (
    "note wake set_clock tell_kind mark promise hear anew send tell commit again pin unpin close_era between order "
    "miss stamp done front log may_use may_give misses"
)


def source_watch(faults=1):
    """Return the watch of a device with three sources, which can be wrong by 1 each."""
    sources = [(name, 0, (("k", 1, 1),)) for name in ("s", "t", "u")]
    return Watch(Frame(["a"], [], [], sources, faults), 0)


class InterfaceTest(unittest.TestCase):
    def test_it_is_defined_here_with_all_that_the_interface_lists(self):
        self.assertEqual(Watch.__module__, module.__name__)
        for name in METHODS.split():
            self.assertTrue(callable(vars(Watch)[name]), name)
        for name in ["known_counts", "pins", "live", "choices", "surely_broken"]:
            self.assertIsInstance(vars(Watch)[name], property)

    def test_fields(self):
        frame = three_frame()
        for device in range(3):
            watch = Watch(frame, device)
            self.assertIs(watch.frame, frame)
            self.assertEqual(watch.device, device)
            self.assertIs(watch.owes, False)

    def test_a_device_that_does_not_exist(self):
        for device in [3, 99, -1, -3]:
            with self.assertRaises(UnknownItem):
                Watch(three_frame(), device)

    def test_the_frame_stays_as_it_was(self):
        frame = three_frame(1)
        watch = Watch(frame, 0)
        watch.send([5], AB, 0)
        self.assertEqual(fields_of(frame), fields_of(three_frame(1)))


class AtFirstTest(unittest.TestCase):
    def test_it_knows_only_the_births(self):
        watch = Watch(three_frame(), 1)
        self.assertEqual(watch.known_counts, [1, 1, 1])
        self.assertEqual(watch.pins, [])
        self.assertEqual(watch.live, [BEGINNING, (0, 0), (1, 0), (2, 0)])

    def test_each_choice_has_a_table(self):
        self.assertEqual(Watch(three_frame(), 0).choices, [()])
        self.assertEqual(Watch(three_frame(1), 0).choices, [(part,) for part in range(9)])
        self.assertEqual(Watch(three_frame(2), 0).choices, list(itertools.combinations(range(9), 2)))

    def test_nothing_is_said_about_the_births(self):
        watch = Watch(three_frame(1), 2)
        for first, second in itertools.product(watch.live, repeat=2):
            self.assertEqual(watch.between(first, second), [(0, 0)] if first == second else [(None, None)])

    def test_no_part_is_surely_broken(self):
        self.assertEqual(Watch(three_frame(), 0).surely_broken, [])
        self.assertEqual(Watch(three_frame(2), 0).surely_broken, [])

    def test_all_parts_but_one_may_be_broken(self):
        frame = Frame(["a"], [("c", 0, False, (("k", 1, 1),))], [], [("s", 0, (("k", 1, 1),))], 1)
        self.assertEqual(Watch(frame, 0).choices, [(0,), (1,)])
        self.assertEqual(Watch(frame, 0).surely_broken, [])


class LiveTest(unittest.TestCase):
    def test_the_last_event_of_each_device(self):
        watch = Watch(three_frame(), 2)
        watch.note([])
        self.assertEqual(watch.live, [BEGINNING, (0, 0), (1, 0), (2, 1)])
        watch.note([])
        self.assertEqual(watch.live, [BEGINNING, (0, 0), (1, 0), (2, 2)])
        self.assertEqual(watch.known_counts, [1, 1, 3])

    def test_the_events_of_words_under_way(self):
        watch = Watch(three_frame(), 2)
        watch.tell([], 3)
        watch.note([])
        watch.send([], 3, 0)
        watch.note([])
        self.assertEqual(watch.live, [BEGINNING, (0, 0), (1, 0), (2, 1), (2, 3), (2, 4)])

    def test_the_events_of_hands_each_once(self):
        watch = Watch(three_frame(), 1)
        watch.tell_kind([5, 5], 2, 1)
        watch.note([5, 5])
        self.assertEqual(watch.live, [BEGINNING, (0, 0), (1, 1), (1, 2), (2, 0)])
        watch.set_clock([5, 5], 1, 8)
        self.assertEqual(watch.live, [BEGINNING, (0, 0), (1, 1), (1, 3), (2, 0)])
        watch.note([8, 6])
        self.assertEqual(watch.live, [BEGINNING, (0, 0), (1, 3), (1, 4), (2, 0)])

    def test_a_device_order_not_an_order_of_names(self):
        watch = Watch(three_frame(), 0)
        for _ in range(12):
            watch.note([0])
        watch.pin((0, 12))
        watch.note([0])
        watch.tell([0], AB)
        self.assertEqual(watch.live, [BEGINNING, (0, 12), (0, 14), (1, 0), (2, 0)])

    def test_lists_are_new(self):
        watch = Watch(three_frame(1), 0)
        watch.note([0])
        watch.pin((0, 1))
        for ask in [lambda: watch.live, lambda: watch.pins, lambda: watch.choices, lambda: watch.known_counts,
                    lambda: watch.surely_broken, lambda: watch.between((0, 1), (0, 1))]:
            before = list(ask())
            ask().clear()
            ask().append(77)
            self.assertEqual(ask(), before)


class ChoicesTest(unittest.TestCase):
    def test_a_choice_that_becomes_impossible_has_no_table_any_more(self):
        watch = source_watch()
        for source, value in [(0, 10), (1, 11), (2, 50)]:
            self.assertEqual(watch.choices, [(0,), (1,), (2,)])
            watch.mark([], source, 0, value)
        self.assertEqual(watch.choices, [(0,), (1,), (2,)])
        # The third event came before the second one by what its source says.
        watch.mark([], 0, 0, 13)
        self.assertEqual(watch.choices, [(0,), (2,)])

    def test_surely_broken(self):
        watch = source_watch(2)
        watch.mark([], 0, 0, 50)
        watch.mark([], 1, 0, 20)
        self.assertEqual(watch.choices, [(0, 1), (0, 2), (1, 2)])
        self.assertEqual(watch.surely_broken, [])
        watch.mark([], 2, 0, 10)
        self.assertEqual(watch.choices, [(0, 1), (0, 2), (1, 2)])
        single = source_watch(1)
        single.mark([], 0, 0, 50)
        single.mark([], 1, 0, 20)
        self.assertEqual((single.choices, single.surely_broken), ([(0,), (1,)], []))
        single.mark([], 2, 0, 30)
        self.assertEqual((single.choices, single.surely_broken), ([(0,)], [0]))
        single.mark([], 2, 0, 10)
        self.assertEqual((single.choices, single.surely_broken), ([], None))

    def test_without_a_table_the_list_is_empty(self):
        watch = source_watch(0)
        watch.mark([], 0, 0, 50)
        watch.pin((0, 1))
        watch.mark([], 1, 0, 20)
        self.assertEqual((watch.choices, watch.surely_broken), ([], None))
        self.assertEqual(watch.live, [BEGINNING, (0, 1), (0, 2)])
        for first, second in itertools.product(watch.live, repeat=2):
            self.assertEqual(watch.between(first, second), [])
        for event in [(0, 0), (0, 3), (1, 0), (-1, 1)]:
            with self.assertRaises(NotKept):
                watch.between(event, BEGINNING)
            with self.assertRaises(NotKept):
                watch.pin(event)

    def test_events_go_on_without_a_table(self):
        watch = source_watch(0)
        for value in [50, 20, 10]:
            watch.mark([], 0, 0, value)
        self.assertEqual(watch.note([]), (0, 4))
        self.assertEqual(watch.known_counts, [5])


class BetweenTest(unittest.TestCase):
    def test_what_the_marks_say(self):
        watch = source_watch(1)
        for source, value in [(0, 10), (1, 11), (2, 50)]:
            watch.mark([], source, 0, value)
            watch.pin((0, source + 1))
        self.assertEqual(watch.between(BEGINNING, (0, 1)), [(None, 12)])
        self.assertEqual(watch.between(BEGINNING, (0, 2)), [(9, 51)])
        self.assertEqual(watch.between((0, 3), BEGINNING), [(None, -10)])

    def test_several_stretches(self):
        watch = source_watch(1)
        watch.mark([], 0, 0, 10)
        watch.mark([], 1, 0, 50)
        watch.mark([], 0, 0, 11)
        self.assertEqual(watch.between(BEGINNING, (0, 3)), [(10, 12), (49, None)])
        self.assertEqual(watch.between((0, 3), BEGINNING), [(None, -49), (-12, -10)])

    def test_as_the_view_says_whatever_is_kept(self):
        frame = three_frame(1)
        watch = Watch(frame, 0)
        view = first_view(frame)
        for call in [
            lambda: watch.mark([3], 0, 0, 100), lambda: watch.note([4]), lambda: watch.pin((0, 2)),
            lambda: watch.tell_kind([7], 0, 1), lambda: watch.send([9], AB, 1)[0], lambda: watch.mark([60], 0, 1, 150),
            lambda: watch.set_clock([61], 0, 5), lambda: watch.unpin((0, 2)), lambda: watch.wake([5]),
            lambda: watch.anew([6], (0,)),
        ]:
            if call() is not None:
                view[0].append(watch.last_made)
            expected = answers_by_view(frame, view, watch.live)
            found = {pair: watch.between(*pair) for pair in itertools.product(watch.live, repeat=2)}
            self.assertEqual(found, expected)

    def test_events_that_are_not_kept(self):
        watch = Watch(three_frame(), 0)
        watch.note([0])
        watch.note([0])
        for event in [(0, 0), (0, 1), (0, 3), (1, 1), (1, -1), (3, 0), (-1, 1), (-1, -1), (-2, 0)]:
            for pair in [(event, BEGINNING), (BEGINNING, event), (event, event), (event, (0, 2))]:
                with self.assertRaises(NotKept):
                    watch.between(*pair)
        self.assertEqual(watch.between(BEGINNING, BEGINNING), [(0, 0)])
        self.assertEqual(watch.between((0, 2), (0, 2)), [(0, 0)])

    def test_an_event_that_is_live_only_as_the_point_of_a_hand(self):
        watch = Watch(three_frame(), 0)
        watch.tell_kind([5], 0, 1)
        watch.note([5])
        watch.note([5])
        self.assertEqual(watch.between((0, 1), (0, 3)), [(0, 2)])
        watch.note([6])
        with self.assertRaises(NotKept):
            watch.between((0, 1), (0, 4))

    def test_an_event_that_is_live_only_as_that_of_a_word(self):
        watch = Watch(three_frame(), 2)
        watch.tell([], 3)
        watch.note([])
        self.assertEqual(watch.between((2, 1), (2, 2)), [(0, None)])

    def test_a_birth_is_kept_as_long_as_it_is_the_last_event(self):
        watch = Watch(three_frame(), 0)
        self.assertEqual(watch.between((0, 0), (1, 0)), [(None, None)])
        watch.note([0])
        with self.assertRaises(NotKept):
            watch.between((0, 0), (1, 0))


class PinTest(unittest.TestCase):
    def noted_watch(self, many):
        """Return a watch with so many pinned events and one more, and the events."""
        watch = Watch(three_frame(), 0)
        events = [watch.note([0])]
        for _ in range(many):
            watch.pin(events[-1])
            events.append(watch.note([0]))
        return watch, events

    def test_a_pinned_event_stays(self):
        watch, events = self.noted_watch(1)
        self.assertEqual(watch.pins, [(0, 1)])
        self.assertEqual(watch.live, [BEGINNING, (0, 1), (0, 2), (1, 0), (2, 0)])
        self.assertEqual(watch.between((0, 1), (0, 2)), [(0, 11)])
        self.assertEqual(events, [(0, 1), (0, 2)])

    def test_it_is_removed_when_it_is_unpinned(self):
        watch, _ = self.noted_watch(1)
        self.assertIsNone(watch.unpin((0, 1)))
        self.assertEqual((watch.pins, watch.live), ([], [BEGINNING, (0, 2), (1, 0), (2, 0)]))
        self.assertNotIn((0, 1, -1), watch.tables.points_kept())
        with self.assertRaises(NotKept):
            watch.between((0, 1), (0, 2))
        with self.assertRaises(NotKept):
            watch.pin((0, 1))

    def test_it_is_not_removed_as_long_as_it_is_live(self):
        watch = Watch(three_frame(), 0)
        watch.note([0])
        self.assertIsNone(watch.pin((0, 1)))
        watch.unpin((0, 1))
        self.assertEqual(watch.live, [BEGINNING, (0, 1), (1, 0), (2, 0)])
        watch.pin((0, 1))
        self.assertEqual(watch.pins, [(0, 1)])

    def test_a_pinned_birth(self):
        watch = Watch(three_frame(), 0)
        watch.pin((0, 0))
        watch.note([0])
        watch.note([0])
        self.assertEqual(watch.between((0, 0), (0, 2)), [(0, None)])

    def test_the_order_of_the_pins(self):
        watch = Watch(three_frame(), 0)
        for event in [(2, 0), (0, 0), (1, 0)]:
            watch.pin(event)
        self.assertEqual(watch.pins, [(2, 0), (0, 0), (1, 0)])
        watch.unpin((2, 0))
        watch.pin((2, 0))
        self.assertEqual(watch.pins, [(0, 0), (1, 0), (2, 0)])

    def test_to_pin_the_beginning_or_a_pinned_event_changes_nothing(self):
        for many in range(5):
            watch, events = self.noted_watch(many)
            for event in [BEGINNING, *events[:many]]:
                self.assertIsNone(watch.pin(event))
                self.assertEqual(watch.pins, events[:many])

    def test_too_many(self):
        watch, events = self.noted_watch(4)
        before = watch.live
        with self.assertRaises(TooManyPins):
            watch.pin(events[-1])
        with self.assertRaises(TooManyPins):
            watch.pin((1, 0))
        self.assertEqual((watch.pins, watch.live), (events[:4], before))
        watch.unpin(events[1])
        watch.pin(events[-1])
        self.assertEqual(watch.pins, [events[0], events[2], events[3], events[4]])

    def test_not_kept_comes_first(self):
        watch, _ = self.noted_watch(4)
        for event in [(0, 0), (0, 9), (1, 1), (3, 0), (-1, 1)]:
            with self.assertRaises(NotKept):
                watch.pin(event)

    def test_not_pinned(self):
        watch, events = self.noted_watch(2)
        for event in [events[-1], BEGINNING, (0, 0), (1, 0), (7, 7)]:
            with self.assertRaises(NotPinned):
                watch.unpin(event)
        self.assertEqual(watch.pins, events[:2])
        watch.unpin(events[0])
        with self.assertRaises(NotPinned):
            watch.unpin(events[0])

    def test_pins_belong_to_one_watch(self):
        first, second = Watch(three_frame(), 0), Watch(three_frame(), 0)
        first.pin((0, 0))
        self.assertEqual(second.pins, [])
        first.note([0])
        self.assertEqual(second.known_counts, [1, 1, 1])

    def test_an_event_of_another_device(self):
        first, second = Watch(three_frame(), 0), Watch(three_frame(), 1)
        _, text = first.send([0], AB, 0)
        second.hear([0, 0], text)
        second.pin((0, 1))
        _, text = second.tell([0, 0], BA)
        first.hear([0], text)
        self.assertEqual(first.live, [BEGINNING, (0, 2), (1, 2), (2, 0)])
        self.assertEqual(second.live, [BEGINNING, (0, 1), (1, 2), (2, 0)])


if __name__ == "__main__":
    unittest.main()
