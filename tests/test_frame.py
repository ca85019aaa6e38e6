"""Point [2] and the interface of Frame; points [5] and [7]."""

import unittest

from tests.samples import fields_of, full_frame
from whensure.frame import frame as module
from whensure.frame.frame import BEGINNING, Frame


class FieldsTest(unittest.TestCase):
    def test_the_beginning(self):
        self.assertEqual(BEGINNING, (-1, 0))
        self.assertIs(type(BEGINNING), tuple)

    def test_the_class_is_defined_here_with_all_that_the_interface_lists(self):
        self.assertEqual(Frame.__module__, module.__name__)
        for name in ["part_count", "clocks_of", "link_part", "source_part"]:
            self.assertIn(name, vars(Frame))

    def test_the_fields_are_what_was_passed(self):
        devices = ["a", "b"]
        clocks = [("c", 0, False, (("k", 1, 2),))]
        links = [("l", 0, 1, (("k", 0, None),)), ("m", 1, 0, (("k", 0, 3),))]
        sources = [("s", 1, (("k", 4, 5),))]
        frame = Frame(devices, clocks, links, sources, 2)
        self.assertEqual(fields_of(frame), (["a", "b"], clocks, links, sources, 2))
        for field in fields_of(frame)[:4]:
            self.assertIs(type(field), list)

    def test_the_fields_are_set_on_the_object(self):
        self.assertEqual(
            sorted(vars(Frame([], [], [], [], 0))), ["clocks", "devices", "faults", "links", "sources"]
        )

    def test_what_was_passed_is_not_kept(self):
        passed = [["a"], [("c", 0, False, ())], [("l", 0, 0, ())], [("s", 0, ())]]
        frame = Frame(*passed, 0)
        for field in passed:
            field.append("more")
            field[0] = "other"
        self.assertEqual(
            fields_of(frame), (["a"], [("c", 0, False, ())], [("l", 0, 0, ())], [("s", 0, ())], 0)
        )

    def test_what_was_passed_is_not_changed(self):
        passed = [["a"], [("c", 0, False, ())], [("l", 0, 0, ())], [("s", 0, ())]]
        frame = Frame(*passed, 0)
        frame.clocks_of(0)
        frame.link_part(0)
        frame.source_part(0)
        self.assertEqual(passed, [["a"], [("c", 0, False, ())], [("l", 0, 0, ())], [("s", 0, ())]])

    def test_nothing_is_checked(self):
        frame = Frame(["A", "A"], [("", 7, True, ())], [("x", 3, 3, ())], [("y", 9, (("k", -1, -2),))], 99)
        self.assertEqual(frame.faults, 99)
        self.assertEqual(frame.part_count, 3)


class PartsTest(unittest.TestCase):
    def test_numbers_of_parts(self):
        frame = full_frame()
        self.assertEqual(frame.part_count, 5)
        self.assertEqual([frame.link_part(link) for link in range(2)], [2, 3])
        self.assertEqual(frame.source_part(0), 4)

    def test_part_count_is_a_property(self):
        self.assertIsInstance(vars(Frame)["part_count"], property)

    def test_no_parts(self):
        frame = Frame(["a"], [], [], [], 0)
        self.assertEqual(frame.part_count, 0)
        self.assertEqual(frame.clocks_of(0), [])

    def test_no_clocks(self):
        frame = Frame(["a", "b"], [], [("l", 0, 1, ()), ("m", 1, 0, ())], [("s", 0, ()), ("t", 0, ())], 0)
        self.assertEqual(frame.part_count, 4)
        self.assertEqual([frame.link_part(0), frame.link_part(1)], [0, 1])
        self.assertEqual([frame.source_part(0), frame.source_part(1)], [2, 3])

    def test_no_links(self):
        frame = Frame(["a"], [("c", 0, False, ())], [], [("s", 0, ()), ("t", 0, ())], 0)
        self.assertEqual(frame.part_count, 3)
        self.assertEqual([frame.source_part(0), frame.source_part(1)], [1, 2])

    def test_no_sources(self):
        frame = Frame(["a", "b"], [("c", 0, False, ())] * 3, [("l", 0, 1, ())], [], 0)
        self.assertEqual(frame.part_count, 4)
        self.assertEqual(frame.link_part(0), 3)

    def test_only_sources(self):
        frame = Frame(["a"], [], [], [("s", 0, ())], 0)
        self.assertEqual((frame.part_count, frame.source_part(0)), (1, 0))


class ClocksOfTest(unittest.TestCase):
    def setUp(self):
        clocks = [(name, device, False, ()) for name, device in [("e", 2), ("d", 0), ("c", 2), ("b", 0), ("a", 2)]]
        self.frame = Frame(["x", "y", "z"], clocks, [], [], 0)

    def test_numbers_ascend(self):
        self.assertEqual(self.frame.clocks_of(0), [1, 3])
        self.assertEqual(self.frame.clocks_of(2), [0, 2, 4])

    def test_a_device_without_clocks(self):
        self.assertEqual(self.frame.clocks_of(1), [])

    def test_the_list_is_new(self):
        clocks = self.frame.clocks_of(2)
        clocks.append(99)
        clocks[0] = 7
        self.assertEqual(self.frame.clocks_of(2), [0, 2, 4])
        self.assertEqual(len(self.frame.clocks), 5)


if __name__ == "__main__":
    unittest.main()
