"""Points [2] and [13]: the birth event, and the view that has only births."""

import unittest

from tests.samples import fields_of, full_frame
from whensure.frame.frame import Frame
from whensure.story import events
from whensure.story.events import birth, first_view


def frame_of(count):
    """Return a frame with so many devices."""
    return Frame([f"d{at}" for at in range(count)], [("c", 0, False, (("k", 1, 2),))] * 2, [], [], 0)


class BirthTest(unittest.TestCase):
    def test_they_are_defined_here(self):
        self.assertEqual((birth.__module__, first_view.__module__), (events.__name__, events.__name__))

    def test_a_1_for_each_device(self):
        self.assertEqual(birth(frame_of(1)), (False, (), (), ("note",), (1,)))
        self.assertEqual(birth(frame_of(2)), (False, (), (), ("note",), (1, 1)))
        self.assertEqual(birth(frame_of(6)), (False, (), (), ("note",), (1, 1, 1, 1, 1, 1)))

    def test_kinds_of_values(self):
        asleep, shown, after, deed, knows = birth(frame_of(2))
        self.assertIs(asleep, False)
        for part in [birth(frame_of(2)), shown, after, deed, knows]:
            self.assertIs(type(part), tuple)
        self.assertEqual([type(number) for number in knows], [int, int])

    def test_the_frame_stays_as_it_was(self):
        frame = full_frame()
        birth(frame)
        first_view(frame)
        self.assertEqual(fields_of(frame), fields_of(full_frame()))


class FirstViewTest(unittest.TestCase):
    def test_a_list_with_the_birth_for_each_device(self):
        for count in range(1, 7):
            frame = frame_of(count)
            view = first_view(frame)
            self.assertEqual(view, [[birth(frame)] for _ in range(count)])
            self.assertEqual([type(part) for part in [view, *view]], [list] * (count + 1))

    def test_it_is_new_each_time(self):
        frame = frame_of(3)
        view = first_view(frame)
        view[0].append("more")
        view[1].clear()
        view.append([])
        self.assertEqual(first_view(frame), [[birth(frame)]] * 3)

    def test_its_lists_are_not_one_list(self):
        view = first_view(frame_of(2))
        view[0].append("more")
        self.assertEqual(len(view[1]), 1)


if __name__ == "__main__":
    unittest.main()
