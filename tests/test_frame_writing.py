"""Points [9] and [10]: the written form of a frame, and that it is read as the same frame again."""

import copy
import unittest

from tests.samples import FULL_TEXT, fields_of, full_frame, random_frame
from whensure.frame import writing
from whensure.frame.frame import Frame
from whensure.frame.reading import read_frame
from whensure.frame.writing import write_frame


class WrittenFormTest(unittest.TestCase):
    def test_it_is_defined_here(self):
        self.assertEqual(write_frame.__module__, writing.__name__)

    def test_sign_by_sign(self):
        self.assertEqual(write_frame(full_frame()), FULL_TEXT)

    def test_the_order_is_that_of_the_sorts(self):
        text = (
            "faults 2\ndevice b\nsource s at b\nkind k 1 2\ndevice a\nlink l from a to b\nkind k 1 2\nclock d of a\n"
            "kind x 5 6\nkind k 5 6\nlink m from b to a\nkind k 3 4\nclock c of b\nkind k 1 2\n"
            "source r at a\nkind z 7 8\n"
        )
        self.assertEqual(
            write_frame(read_frame(text)),
            "device b\ndevice a\nclock d of a\nkind x 5 6\nkind k 5 6\nclock c of b\nkind k 1 2\n"
            "link l from a to b\nkind k 1 2\nlink m from b to a\nkind k 3 4\n"
            "source s at b\nkind k 1 2\nsource r at a\nkind z 7 8\nfaults 2\n",
        )

    def test_faults_only_if_not_0(self):
        for faults, line in [(0, ""), (1, "faults 1\n"), (2, "faults 2\n")]:
            frame = Frame(["a"], [("c", 0, False, (("k", 1, 2),))], [], [], faults)
            self.assertEqual(write_frame(frame), "device a\nclock c of a\nkind k 1 2\n" + line)

    def test_a_clock_that_goes_on_asleep(self):
        frame = Frame(["a"], [("c", 0, True, (("k", 1, 2),)), ("d", 0, False, (("k", 1, 2),))], [], [], 0)
        self.assertEqual(
            write_frame(frame), "device a\nclock c of a goes on asleep\nkind k 1 2\nclock d of a\nkind k 1 2\n"
        )

    def test_none_only_for_no_most(self):
        links = [("l", 0, 1, (("k", 0, None), ("m", 0, 0))), ("m", 1, 0, (("k", 7, None),))]
        frame = Frame(["a", "b"], [], links, [], 0)
        self.assertEqual(
            write_frame(frame),
            "device a\ndevice b\nlink l from a to b\nkind k 0 none\nkind m 0 0\nlink m from b to a\nkind k 7 none\n",
        )

    def test_blanks_comments_and_leading_zeros_are_not_kept(self):
        text = "\n# x\n  device  a # y\nclock c  of a\n\nkind k 007 000000000010\nkind m 01 2"
        self.assertEqual(write_frame(read_frame(text)), "device a\nclock c of a\nkind k 7 10\nkind m 1 2\n")

    def test_minus_zero_is_0(self):
        text = "device a\nsource s at a\nkind k -0 -00\nfaults 0\n"
        self.assertEqual(write_frame(read_frame(text)), "device a\nsource s at a\nkind k 0 0\n")

    def test_numbers_below_0_have_a_minus(self):
        frame = Frame(["a"], [], [], [("s", 0, (("k", -1, -20),))], 0)
        self.assertEqual(write_frame(frame), "device a\nsource s at a\nkind k -1 -20\n")

    def test_a_frame_without_anything(self):
        self.assertEqual(write_frame(Frame([], [], [], [], 0)), "")

    def test_the_frame_stays_as_it_was(self):
        frame = full_frame()
        before = copy.deepcopy(fields_of(frame))
        write_frame(frame)
        self.assertEqual(fields_of(frame), before)


class WrittenAndReadTest(unittest.TestCase):
    def assert_same_again(self, frame):
        text = write_frame(frame)
        again = read_frame(text)
        self.assertEqual(fields_of(again), fields_of(frame))
        # False equals 0, so the kinds of values are compared on their own.
        self.assertEqual(repr(fields_of(again)), repr(fields_of(frame)))
        self.assertEqual(write_frame(again), text)

    def test_a_frame_with_everything(self):
        self.assert_same_again(full_frame())

    def test_the_least_and_the_greatest_numbers(self):
        most = 10**12 - 1
        self.assert_same_again(
            Frame(
                ["abcdefghijkl", "z"],
                [("a23456789012", 0, True, (("k", 1, 1), ("l", 1, most), ("m", most, most)))],
                [
                    ("device", 0, 1, (("k", 0, 0), ("none", 0, most), ("m", most, None), ("n", most, most))),
                    ("link", 1, 0, (("k", 0, None),)),
                ],
                [("s", 1, (("k", 0, 0), ("l", most, 0), ("m", 0, most)))],
                2,
            )
        )

    def test_the_greatest_frame(self):
        kinds = tuple((f"k{at}", at + 1, at + 2) for at in range(4))
        for devices in range(1, 7):
            names = [f"d{at}" for at in range(devices)]
            for parts in range(1, 10):
                clocks = [(f"c{at}", at % devices, at % 2 == 0, kinds[: at % 4 + 1]) for at in range(parts)]
                self.assert_same_again(Frame(names, clocks, [], [], min(2, parts - 1)))

    def test_many_frames(self):
        for seed in range(300):
            with self.subTest(seed):
                self.assert_same_again(random_frame(seed))


if __name__ == "__main__":
    unittest.main()
