"""Points [17] to [22]: the bounds of one event, and the hands of clocks."""

import copy
import unittest

from tests.samples import fields_of
from whensure.bounds import bounds as module
from whensure.bounds.bounds import event_bounds, first_hands, view_bounds
from whensure.frame.frame import Frame

START = (-1, 0, -1)
E = (0, 5, -1)
P = (0, 4, -1)
T = (0, 2, 1)


def sample_frame():
    """Return a frame with clocks 1, 3 and 4 at device 0, clock 0 at device 1, clock 2 at device 2, none at device 3."""
    kinds = (("k", 9, 11), ("slow", 20, 30), ("exact", 10, 10))
    return Frame(
        ["a", "b", "c", "d"],
        [
            ("c0", 1, False, kinds),
            ("c1", 0, False, kinds),
            ("c2", 2, True, kinds),
            ("c3", 0, True, (("k", 3, 4), ("l", 5, 7))),
            ("c4", 0, False, (("k", 100, 100),)),
        ],
        [
            ("ab", 0, 1, (("k", 7, 8),)),
            ("ba", 1, 0, (("fast", 2, 6), ("any", 3, None), ("at_once", 0, 0))),
            ("cd", 2, 3, (("k", 1, 2),)),
            ("dc", 3, 2, (("k", 1, 5),)),
        ],
        [("s", 2, (("k", 1, 1),)), ("t", 3, (("good", 2, 5), ("exact", 0, 0), ("early", 4, 0)))],
        1,
    )


def one_clock(goes_on=False):
    """Return the sample frame with clock 1 alone at device 0."""
    frame = sample_frame()
    clocks = [(name, 4 if at in (3, 4) else device, on, kinds)
              for at, (name, device, on, kinds) in enumerate(frame.clocks)]
    clocks[1] = (*clocks[1][:2], goes_on, clocks[1][3])
    return Frame(["a", "b", "c", "d", "e"], clocks, frame.links, frame.sources, 1)


def record_of(shown, deed=("note",), asleep=False, after=None, device=0, number=5):
    """Return a record; after is what is shown if nothing else is given."""
    return (device, number, (asleep, shown, shown if after is None else after, deed, (6, 6, 6, 6)))


def bounds_of(hand, shown, goes_on=False, **more):
    """Return the bounds and the hand of one event of a device with one clock, without the bound of the order."""
    (first, *bounds), hands = event_bounds(one_clock(goes_on), record_of((shown,), **more), [hand], None)
    assert first == (E, P, 0, -1), first
    return bounds, hands


class InterfaceTest(unittest.TestCase):
    def test_they_are_defined_here(self):
        for function in [first_hands, event_bounds, view_bounds]:
            self.assertEqual(function.__module__, module.__name__)

    def test_kinds_of_values(self):
        result = event_bounds(sample_frame(), record_of((1, 2, 3)), first_hands(sample_frame(), 0), None)
        self.assertIs(type(result), tuple)
        self.assertEqual([type(part) for part in result], [list, list])
        for bound in result[0]:
            self.assertEqual([type(part) for part in [bound, *bound]], [tuple, tuple, tuple, int, int])
        self.assertEqual([type(hand) for hand in result[1]], [tuple] * 3)


class FirstHandsTest(unittest.TestCase):
    def test_one_for_each_clock(self):
        frame = sample_frame()
        self.assertEqual(first_hands(frame, 0), [(None, 0, 0)] * 3)
        self.assertEqual(first_hands(frame, 1), [(None, 0, 0)])
        self.assertEqual(first_hands(frame, 3), [])

    def test_the_list_is_new(self):
        frame = sample_frame()
        first_hands(frame, 0).append("more")
        self.assertEqual(first_hands(frame, 0), [(None, 0, 0)] * 3)


class OrderTest(unittest.TestCase):
    def test_an_event_is_not_earlier_than_the_one_before(self):
        result = event_bounds(sample_frame(), record_of((), device=3), [], None)
        self.assertEqual(result, ([((3, 5, -1), (3, 4, -1), 0, -1)], []))

    def test_the_first_event_after_the_birth(self):
        record = record_of((), device=3, number=1)
        self.assertEqual(event_bounds(sample_frame(), record, [], None)[0], [((3, 1, -1), (3, 0, -1), 0, -1)])

    def test_deeds_that_say_nothing_about_times(self):
        for deed in [("send", 2, 0), ("tell", 3), ("promise", 2, 1), ("commit", 7), ("anew", ()), ("note",)]:
            record = record_of((), deed=deed, device=3)
            self.assertEqual(event_bounds(sample_frame(), record, [], None)[0], [((3, 5, -1), (3, 4, -1), 0, -1)])


class ClockTest(unittest.TestCase):
    """The bounds by clock 1, which gains a unit in 9 to 11 instants; u is the tick at this event."""

    u = (0, 5, 1)

    def same(self, high=11):
        """The bounds if it shows the same as before."""
        return [(T, E, high, 1), (E, T, 0, 1)]

    def gained(self, many, low=9, high=11):
        """The bounds if it shows so many more than before."""
        return [
            (T, self.u, high * many, 1), (self.u, T, -low * many, 1), (self.u, T, 0, 1),
            (self.u, P, -low * (many - 1), 1), (self.u, E, high, 1), (E, self.u, 0, 1),
        ]

    def unknown(self, high=11):
        """The bounds if nothing is known from before."""
        return [(self.u, E, high, 1), (E, self.u, 0, 1)]

    def test_it_shows_the_same(self):
        self.assertEqual(bounds_of((T, 70, 0), 70), (self.same(), [(T, 70, 0)]))

    def test_it_shows_one_more(self):
        bounds, hands = bounds_of((T, 70, 0), 71)
        self.assertEqual(bounds, [
            (T, (0, 5, 1), 11, 1), ((0, 5, 1), T, -9, 1), ((0, 5, 1), T, 0, 1),
            ((0, 5, 1), P, 0, 1), ((0, 5, 1), E, 11, 1), (E, (0, 5, 1), 0, 1),
        ])
        self.assertEqual(bounds, self.gained(1))
        self.assertEqual(hands, [((0, 5, 1), 71, 0)])

    def test_it_shows_several_more(self):
        bounds, hands = bounds_of((T, 70, 0), 74)
        self.assertEqual(bounds, [
            (T, (0, 5, 1), 44, 1), ((0, 5, 1), T, -36, 1), ((0, 5, 1), T, 0, 1),
            ((0, 5, 1), P, -27, 1), ((0, 5, 1), E, 11, 1), (E, (0, 5, 1), 0, 1),
        ])
        self.assertEqual(bounds, self.gained(4))
        self.assertEqual(hands, [((0, 5, 1), 74, 0)])

    def test_it_shows_less(self):
        bounds, hands = bounds_of((T, 70, 0), 68)
        self.assertEqual(bounds, [
            (T, (0, 5, 1), -22, 1), ((0, 5, 1), T, 18, 1), ((0, 5, 1), T, 0, 1),
            ((0, 5, 1), P, 27, 1), ((0, 5, 1), E, 11, 1), (E, (0, 5, 1), 0, 1),
        ])
        self.assertEqual(bounds, self.gained(-2))
        self.assertEqual(hands, [((0, 5, 1), 68, 0)])

    def test_it_shows_numbers_below_0_and_great_ones(self):
        self.assertEqual(bounds_of((T, -3, 0), -3), (self.same(), [(T, -3, 0)]))
        self.assertEqual(bounds_of((T, -3, 0), 0), (self.gained(3), [(self.u, 0, 0)]))
        most = 10**18 - 1
        self.assertEqual(bounds_of((T, -most, 0), most), (self.gained(2 * most), [(self.u, most, 0)]))

    def test_the_kind_by_which_it_runs(self):
        self.assertEqual(bounds_of((T, 70, 1), 70), (self.same(30), [(T, 70, 1)]))
        self.assertEqual(bounds_of((T, 70, 1), 72), (self.gained(2, 20, 30), [(self.u, 72, 1)]))
        self.assertEqual(bounds_of((T, 70, 2), 67), (self.gained(-3, 10, 10), [(self.u, 67, 2)]))
        self.assertEqual(bounds_of((None, 70, 1), 70), (self.unknown(30), [(self.u, 70, 1)]))

    def test_the_point_is_not_known(self):
        for shown in [70, 71, 75, 66, 0]:
            for goes_on in [False, True]:
                self.assertEqual(
                    bounds_of((None, 70, 0), shown, goes_on), (self.unknown(), [(self.u, shown, 0)])
                )

    def test_it_was_stopped_by_sleep(self):
        for shown in [70, 71, 75, 66]:
            self.assertEqual(
                bounds_of((T, 70, 0), shown, asleep=True), (self.unknown(), [(self.u, shown, 0)])
            )

    def test_it_goes_on_asleep(self):
        self.assertEqual(bounds_of((T, 70, 0), 70, True, asleep=True), (self.same(), [(T, 70, 0)]))
        for shown in [71, 75, 66]:
            self.assertEqual(
                bounds_of((T, 70, 0), shown, True, asleep=True), (self.gained(shown - 70), [(self.u, shown, 0)])
            )
        self.assertEqual(bounds_of((None, 70, 0), 70, True, asleep=True), (self.unknown(), [(self.u, 70, 0)]))

    def test_it_was_stopped_by_a_beginning(self):
        for shown in [70, 71, 66]:
            for goes_on in [False, True]:
                for asleep in [False, True]:
                    for kind in range(3):
                        self.assertEqual(
                            bounds_of((T, 70, 0), shown, goes_on, asleep=asleep, deed=("anew", (kind,))),
                            (self.unknown(), [(E, shown, kind)]),
                        )

    def test_the_bounds_at_a_beginning_are_of_the_kind_before_it(self):
        self.assertEqual(bounds_of((T, 70, 1), 70, deed=("anew", (0,))), (self.unknown(30), [(E, 70, 0)]))

    def test_a_kind_is_given(self):
        for kind in range(3):
            deed = ("kind", 1, kind)
            self.assertEqual(bounds_of((T, 70, 0), 70, deed=deed), (self.same(), [(E, 70, kind)]))
            self.assertEqual(bounds_of((T, 70, 0), 72, deed=deed), (self.gained(2), [(E, 72, kind)]))
            self.assertEqual(bounds_of((None, 70, 0), 72, deed=deed), (self.unknown(), [(E, 72, kind)]))

    def test_a_kind_is_given_and_it_is_set(self):
        self.assertEqual(
            bounds_of((T, 70, 0), 70, deed=("kind", 1, 1), after=(5,)), (self.same(), [(E, 5, 1)])
        )
        self.assertEqual(
            bounds_of((T, 70, 0), 70, deed=("anew", (2,)), after=(5,)), (self.unknown(), [(E, 5, 2)])
        )

    def test_a_kind_of_another_clock_is_given(self):
        self.assertEqual(bounds_of((T, 70, 0), 70, deed=("kind", 0, 2)), (self.same(), [(T, 70, 0)]))

    def test_it_is_set(self):
        self.assertEqual(bounds_of((T, 70, 1), 70, after=(71,)), (self.same(30), [(E, 71, 1)]))
        self.assertEqual(bounds_of((T, 70, 0), 73, after=(70,)), (self.gained(3), [(E, 70, 0)]))
        self.assertEqual(bounds_of((None, 70, 0), 73, after=(-8,)), (self.unknown(), [(E, -8, 0)]))
        self.assertEqual(bounds_of((T, 70, 0), 73, asleep=True, after=(0,)), (self.unknown(), [(E, 0, 0)]))

    def test_it_shows_what_it_was_set_to(self):
        hand = bounds_of((T, 70, 0), 70, after=(71,))[1][0]
        record = record_of((71,), number=6)
        bounds, hands = event_bounds(one_clock(), record, [hand], None)
        self.assertEqual(bounds, [((0, 6, -1), E, 0, -1), (E, (0, 6, -1), 11, 1), ((0, 6, -1), E, 0, 1)])
        self.assertEqual(hands, [(E, 71, 0)])


class SeveralClocksTest(unittest.TestCase):
    hands = [(T, 70, 1), (None, 0, 1), ((0, 4, -1), -5, 0)]

    def test_in_order_each_by_its_own_hand_and_kind(self):
        bounds, hands = event_bounds(sample_frame(), record_of((70, 0, -4)), self.hands, None)
        self.assertEqual(bounds, [
            (E, P, 0, -1),
            (T, E, 30, 1), (E, T, 0, 1),
            ((0, 5, 3), E, 7, 3), (E, (0, 5, 3), 0, 3),
            (P, (0, 5, 4), 100, 4), ((0, 5, 4), P, -100, 4), ((0, 5, 4), P, 0, 4), ((0, 5, 4), P, 0, 4),
            ((0, 5, 4), E, 100, 4), (E, (0, 5, 4), 0, 4),
        ])
        self.assertEqual(hands, [(T, 70, 1), ((0, 5, 3), 0, 1), ((0, 5, 4), -4, 0)])

    def test_at_the_first_event(self):
        bounds, hands = event_bounds(sample_frame(), record_of((0, 1, 2), number=1), [(None, 0, 0)] * 3, None)
        e = (0, 1, -1)
        self.assertEqual(bounds, [
            (e, (0, 0, -1), 0, -1),
            ((0, 1, 1), e, 11, 1), (e, (0, 1, 1), 0, 1),
            ((0, 1, 3), e, 4, 3), (e, (0, 1, 3), 0, 3),
            ((0, 1, 4), e, 100, 4), (e, (0, 1, 4), 0, 4),
        ])
        self.assertEqual(hands, [((0, 1, 1), 0, 0), ((0, 1, 3), 1, 0), ((0, 1, 4), 2, 0)])

    def test_asleep_only_some_are_stopped(self):
        hands = [(T, 70, 0), ((0, 1, 3), 8, 0), ((0, 1, 4), 9, 0)]
        bounds, hands = event_bounds(sample_frame(), record_of((70, 8, 9), asleep=True), hands, None)
        self.assertEqual(bounds[1:], [
            ((0, 5, 1), E, 11, 1), (E, (0, 5, 1), 0, 1),
            ((0, 1, 3), E, 4, 3), (E, (0, 1, 3), 0, 3),
            ((0, 5, 4), E, 100, 4), (E, (0, 5, 4), 0, 4),
        ])
        self.assertEqual(hands, [((0, 5, 1), 70, 0), ((0, 1, 3), 8, 0), ((0, 5, 4), 9, 0)])

    def test_all_begin_anew_each_with_its_kind(self):
        record = record_of((70, 8, 9), deed=("anew", (2, 1, 0)))
        bounds, hands = event_bounds(sample_frame(), record, [(T, 70, 1), ((0, 1, 3), 8, 0), (None, 9, 0)], None)
        self.assertEqual(bounds[1:], [
            ((0, 5, 1), E, 30, 1), (E, (0, 5, 1), 0, 1),
            ((0, 5, 3), E, 4, 3), (E, (0, 5, 3), 0, 3),
            ((0, 5, 4), E, 100, 4), (E, (0, 5, 4), 0, 4),
        ])
        self.assertEqual(hands, [(E, 70, 2), (E, 8, 1), (E, 9, 0)])

    def test_one_is_given_a_kind_and_another_one_is_set(self):
        record = record_of((70, 8, 9), deed=("kind", 3, 0), after=(70, 8, 10))
        hands = event_bounds(sample_frame(), record, [(T, 70, 1), ((0, 1, 3), 8, 1), ((0, 1, 4), 9, 0)], None)[1]
        self.assertEqual(hands, [(T, 70, 1), (E, 8, 0), (E, 10, 0)])

    def test_the_clock_is_given_by_its_number_in_the_frame(self):
        hands = [(T, 70, 0), ((0, 1, 3), 8, 0), ((0, 1, 4), 9, 0)]
        for clock, place in [(1, 0), (3, 1), (4, 2)]:
            record = record_of((70, 8, 9), deed=("kind", clock, 0))
            expected = list(hands)
            expected[place] = (E, expected[place][1], 0)
            self.assertEqual(event_bounds(sample_frame(), record, hands, None)[1], expected)


class MarkTest(unittest.TestCase):
    e = (3, 5, -1)

    def mark(self, source, kind, value, device=3, hands=(), shown=()):
        """Return the bounds of an event with a mark, without the bound of the order."""
        record = record_of(shown, deed=("mark", source, kind, value), device=device)
        return event_bounds(sample_frame(), record, list(hands), None)[0][1:]

    def test_early_and_late(self):
        self.assertEqual(self.mark(1, 0, 100), [(START, self.e, 105, 10), (self.e, START, -98, 10)])

    def test_each_amount_may_be_0(self):
        self.assertEqual(self.mark(1, 1, 100), [(START, self.e, 100, 10), (self.e, START, -100, 10)])
        self.assertEqual(self.mark(1, 2, 100), [(START, self.e, 100, 10), (self.e, START, -96, 10)])

    def test_a_value_of_0_below_0_and_great_ones(self):
        self.assertEqual(self.mark(1, 0, 0), [(START, self.e, 5, 10), (self.e, START, 2, 10)])
        self.assertEqual(self.mark(1, 0, -100), [(START, self.e, -95, 10), (self.e, START, 102, 10)])
        most = 10**12
        self.assertEqual(self.mark(1, 0, most), [(START, self.e, most + 5, 10), (self.e, START, 2 - most, 10)])

    def test_behind_the_clocks(self):
        bounds = self.mark(0, 0, 50, device=2, hands=[(None, 0, 0)], shown=(7,))
        e = (2, 5, -1)
        self.assertEqual(bounds, [
            ((2, 5, 2), e, 11, 2), (e, (2, 5, 2), 0, 2), (START, e, 51, 9), (e, START, -49, 9),
        ])


class HearTest(unittest.TestCase):
    w = (1, 8, -1)

    def hear(self, kind, number=8):
        """Return the bounds of an event that hears a word by link 1, without the bound of the order."""
        record = record_of((), deed=("hear", 1, number))
        frame = sample_frame()
        frame = Frame(frame.devices, [], frame.links, frame.sources, 0)
        return event_bounds(frame, record, [], kind)[0][1:]

    def test_a_word_that_was_told(self):
        self.assertEqual(self.hear(None), [(E, self.w, 0, -1)])

    def test_a_word_that_was_sent_with_a_most(self):
        self.assertEqual(self.hear(0), [(E, self.w, 0, -1), (E, self.w, -2, 1), (self.w, E, 6, 1)])

    def test_a_word_that_was_sent_without_a_most(self):
        self.assertEqual(self.hear(1), [(E, self.w, 0, -1), (E, self.w, -3, 1)])

    def test_a_word_that_takes_no_time(self):
        self.assertEqual(self.hear(2), [(E, self.w, 0, -1), (E, self.w, 0, 1), (self.w, E, 0, 1)])

    def test_the_number_of_the_word(self):
        self.assertEqual(self.hear(None, 1), [(E, (1, 1, -1), 0, -1)])

    def test_behind_the_clocks_with_the_number_of_the_link_among_the_parts(self):
        record = record_of((7,), deed=("hear", 3, 2), device=2)
        e = (2, 5, -1)
        self.assertEqual(event_bounds(sample_frame(), record, [(None, 0, 0)], 0)[0], [
            (e, (2, 4, -1), 0, -1),
            ((2, 5, 2), e, 11, 2), (e, (2, 5, 2), 0, 2),
            (e, (3, 2, -1), 0, -1), (e, (3, 2, -1), -1, 8), ((3, 2, -1), e, 5, 8),
        ])


class PassedTest(unittest.TestCase):
    def test_what_is_passed_stays_as_it_was(self):
        frame = sample_frame()
        for deed in [("note",), ("kind", 3, 1), ("anew", (1, 1, 0)), ("hear", 1, 4)]:
            hands = [(T, 70, 1), (None, 0, 1), (P, -5, 0)]
            record = record_of((75, 8, 9), deed=deed, after=(70, 1, 9))
            copies = copy.deepcopy((hands, record))
            event_bounds(frame, record, hands, 0)
            self.assertEqual((hands, record), copies)
            self.assertEqual(fields_of(frame), fields_of(sample_frame()))

    def test_the_lists_are_new(self):
        hands = [(T, 70, 1), ((0, 1, 3), 8, 0), (P, 9, 0)]
        record = record_of((70, 8, 9))
        first = event_bounds(sample_frame(), record, hands, None)
        self.assertEqual(first[1], hands)
        self.assertIsNot(first[1], hands)
        copies = copy.deepcopy(first)
        first[0].clear()
        first[1].clear()
        self.assertEqual(event_bounds(sample_frame(), record, hands, None), copies)


if __name__ == "__main__":
    unittest.main()
