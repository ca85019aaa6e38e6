"""Points [13] and [23]: the bounds of a view."""

import copy
import unittest

from tests.samples import fields_of
from whensure.bounds.bounds import event_bounds, first_hands, view_bounds
from whensure.frame.frame import Frame
from whensure.story.events import first_view


def sample_frame():
    """Return a frame with two devices, of which the first one has a clock and the second one a source."""
    return Frame(
        ["a", "b"],
        [("c", 0, False, (("k", 9, 11), ("slow", 20, 30)))],
        [("ab", 0, 1, (("k", 7, 8), ("any", 3, None))), ("ba", 1, 0, (("k", 0, 1), ("l", 4, 5)))],
        [("s", 1, (("k", 1, 2),))],
        1,
    )


def event(shown, deed, asleep=False, after=None):
    """Return an event; what it knows does not matter here."""
    return (asleep, shown, shown if after is None else after, deed, (9, 9))


def view_of(first, second):
    """Return a view with these events behind the births."""
    view = first_view(sample_frame())
    view[0].extend(first)
    view[1].extend(second)
    return view


class ViewBoundsTest(unittest.TestCase):
    def test_births_have_none(self):
        frame = sample_frame()
        self.assertEqual(view_bounds(frame, first_view(frame)), [])
        single = Frame(["a"], [], [], [], 0)
        self.assertEqual(view_bounds(single, first_view(single)), [])

    def test_device_by_device_event_by_event(self):
        view = view_of(
            [event((5,), ("note",)), event((5,), ("kind", 0, 1)), event((6,), ("note",))],
            [event((), ("mark", 0, 0, 10)), event((), ("note",))],
        )
        a = [(0, number, -1) for number in range(4)]
        b = [(1, number, -1) for number in range(3)]
        first, last, start = (0, 1, 0), (0, 3, 0), (-1, 0, -1)
        self.assertEqual(view_bounds(sample_frame(), view), [
            (a[1], a[0], 0, -1), (first, a[1], 11, 0), (a[1], first, 0, 0),
            (a[2], a[1], 0, -1), (first, a[2], 11, 0), (a[2], first, 0, 0),
            (a[3], a[2], 0, -1),
            (a[2], last, 30, 0), (last, a[2], -20, 0), (last, a[2], 0, 0), (last, a[2], 0, 0),
            (last, a[3], 30, 0), (a[3], last, 0, 0),
            (b[1], b[0], 0, -1), (start, b[1], 12, 3), (b[1], start, -9, 3),
            (b[2], b[1], 0, -1),
        ])

    def test_a_word_of_a_later_device_is_heard_by_an_earlier_one(self):
        view = view_of([event((5,), ("hear", 1, 2))], [event((), ("note",)), event((), ("send", 1, 1))])
        hearing, sending = (0, 1, -1), (1, 2, -1)
        self.assertEqual(view_bounds(sample_frame(), view), [
            (hearing, (0, 0, -1), 0, -1), ((0, 1, 0), hearing, 11, 0), (hearing, (0, 1, 0), 0, 0),
            (hearing, sending, 0, -1), (hearing, sending, -4, 2), (sending, hearing, 5, 2),
            ((1, 1, -1), (1, 0, -1), 0, -1),
            (sending, (1, 1, -1), 0, -1),
        ])

    def test_words_of_an_earlier_device_by_kind_0_by_another_kind_and_told(self):
        sends = [event((5,), ("send", 0, 0)), event((5,), ("send", 0, 1)), event((5,), ("tell", 0))]
        hears = [event((), ("hear", 0, number)) for number in (1, 2, 3)]
        view = view_of(sends, hears)
        of_first = len(view_bounds(sample_frame(), view_of(sends, [])))
        a = [(0, number, -1) for number in range(4)]
        b = [(1, number, -1) for number in range(4)]
        self.assertEqual(view_bounds(sample_frame(), view)[of_first:], [
            (b[1], b[0], 0, -1), (b[1], a[1], 0, -1), (b[1], a[1], -7, 1), (a[1], b[1], 8, 1),
            (b[2], b[1], 0, -1), (b[2], a[2], 0, -1), (b[2], a[2], -3, 1),
            (b[3], b[2], 0, -1), (b[3], a[3], 0, -1),
        ])

    def test_a_word_that_is_heard_twice(self):
        view = view_of([event((5,), ("send", 0, 0))], [event((), ("hear", 0, 1)), event((), ("hear", 0, 1))])
        sending = (0, 1, -1)
        hears = [bound for bound in view_bounds(sample_frame(), view) if bound[3] == 1]
        self.assertEqual(hears, [
            ((1, 1, -1), sending, -7, 1), (sending, (1, 1, -1), 8, 1),
            ((1, 2, -1), sending, -7, 1), (sending, (1, 2, -1), 8, 1),
        ])

    def test_the_hands_go_on_from_event_to_event(self):
        events = [
            event((5,), ("note",)), event((5,), ("note",)), event((6,), ("note",)), event((6,), ("kind", 0, 0)),
            event((8,), ("note",), after=(2,)), event((2,), ("note",)), event((2,), ("note",), asleep=True),
            event((2,), ("anew", (1,))), event((3,), ("note",)),
        ]
        frame = sample_frame()
        hands = first_hands(frame, 0)
        expected = []
        for number, made in enumerate(events, start=1):
            more, hands = event_bounds(frame, (0, number, made), hands, None)
            expected.extend(more)
        self.assertEqual(view_bounds(frame, view_of(events, [])), expected)
        self.assertEqual(hands, [((0, 9, 0), 3, 1)])

    def test_the_view_and_the_frame_stay_as_they_were(self):
        frame = sample_frame()
        view = view_of([event((5,), ("send", 0, 0))], [event((), ("hear", 0, 1))])
        copied = copy.deepcopy(view)
        view_bounds(frame, view).clear()
        self.assertEqual(view, copied)
        self.assertEqual(fields_of(frame), fields_of(sample_frame()))

    def test_the_list_is_new(self):
        frame = sample_frame()
        view = view_of([event((5,), ("note",))], [])
        bounds = view_bounds(frame, view)
        copied = list(bounds)
        bounds.clear()
        self.assertEqual(view_bounds(frame, view), copied)


if __name__ == "__main__":
    unittest.main()
