"""Point [17]: points of time."""

import unittest

from whensure.bounds import points
from whensure.bounds.points import START, event_point
from whensure.frame.frame import BEGINNING


class PointsTest(unittest.TestCase):
    def test_it_is_defined_here(self):
        self.assertEqual(event_point.__module__, points.__name__)

    def test_the_start(self):
        self.assertEqual(START, (-1, 0, -1))
        self.assertIs(type(START), tuple)

    def test_the_beginning_is_the_start(self):
        self.assertEqual(event_point(BEGINNING), START)
        self.assertEqual(event_point((-1, 0)), (-1, 0, -1))

    def test_events(self):
        self.assertEqual(event_point((0, 0)), (0, 0, -1))
        self.assertEqual(event_point((5, 123456789)), (5, 123456789, -1))
        self.assertIs(type(event_point((2, 3))), tuple)


if __name__ == "__main__":
    unittest.main()
