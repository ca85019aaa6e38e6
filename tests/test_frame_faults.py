"""Point [8]: the line and the reason of a text that is not that of a frame."""

import itertools
import unittest

from whensure.errors import InvalidFrame, WhensureError
from whensure.frame.reading import read_frame

TWO = ["device a", "device b"]
CLOCK = TWO + ["clock c of a"]
LINK = TWO + ["link l from a to b"]
SOURCE = TWO + ["source s at a"]
RIGHT = ["device a", "clock c of a", "kind k 1 2"]


class FaultsTest(unittest.TestCase):
    def assert_fault(self, lines, line, reason):
        text = lines if isinstance(lines, str) else "\n".join(lines)
        with self.subTest(text):
            with self.assertRaises(InvalidFrame) as caught:
                read_frame(text)
            self.assertEqual((caught.exception.line, caught.exception.reason), (line, reason))
            self.assertIsInstance(caught.exception, WhensureError)

    def assert_last_fault(self, lines, reason):
        """Assert that the last one of these lines is wrong, also with more lines behind it."""
        self.assert_fault(lines, len(lines), reason)
        self.assert_fault(lines + [""], len(lines), reason)
        self.assert_fault(lines + ["what", "device A", "kind"], len(lines), reason)
        self.assert_fault(["", "#"] + lines, len(lines) + 2, reason)

    def assert_right(self, lines):
        with self.subTest("\n".join(lines)):
            read_frame("\n".join(lines))


class UnknownLineTest(FaultsTest):
    def test_first_words_that_no_line_has(self):
        for word in ["what", "Device", "DEVICE", "devices", "devic", "of", "goes", "none", "name", "NAME", "fault", "-",
                     "1", "kinds", "\tdevice", "device,", "whensure", "clock:"]:
            self.assert_last_fault(["device a", word], "unknown line")
            self.assert_last_fault([word + " a"], "unknown line")

    def test_a_kind_ahead_of_all(self):
        self.assert_last_fault(["kind k 1 1"], "unknown line")
        self.assert_last_fault(["", " # clock", "kind k 1 1"], "unknown line")

    def test_a_kind_behind_a_device(self):
        self.assert_last_fault(["device a", "kind k 1 1"], "unknown line")
        self.assert_last_fault(CLOCK + ["kind k 1 1", "device d", "kind m 1 1"], "unknown line")

    def test_a_kind_behind_faults(self):
        self.assert_last_fault(["faults 1", "kind k 1 1"], "unknown line")
        self.assert_last_fault(CLOCK + ["kind k 1 1", "faults 0", "kind m 1 1"], "unknown line")
        self.assert_last_fault(CLOCK + ["faults 0", "", "kind m 1 1"], "unknown line")

    def test_a_kind_behind_a_part_with_lines_between(self):
        for part in [CLOCK, LINK, SOURCE]:
            self.assert_last_fault(part + ["", "#x", "kind k 1 1", " ", "kind m 1 1", "", "kind k 1 1"], "given twice")

    def test_it_is_checked_ahead_of_the_words(self):
        self.assert_last_fault(["kind"], "unknown line")
        self.assert_last_fault(["device a", "kind K 1 x y"], "unknown line")
        self.assert_last_fault(["what A B"], "unknown line")


class WrongWordsTest(FaultsTest):
    def test_each_line(self):
        for ahead, line in [
            ([], "device"), ([], "device A"), ([], "device a b"), (TWO, "clock c of"), (TWO, "clock c of A"),
            (TWO, "clock c in a"), (TWO, "link l from a"), (TWO, "link l from a to"), (TWO, "link L from a to b"),
            (TWO, "source s of a"), (TWO, "source s at"), (CLOCK, "kind"), (CLOCK, "kind k"), (CLOCK, "kind k 1"),
            (CLOCK, "kind k 1 2 3"), (CLOCK, "kind K 1 2"), (CLOCK, "kind k 1 none"), (SOURCE, "kind k 1 none"),
            (LINK, "kind k none 1"), (LINK, "kind k none none"), (LINK, "kind none 1"), ([], "faults"),
            ([], "faults -1"), ([], "faults one"), ([], "faults 1 1"),
        ]:
            self.assert_last_fault(ahead + [line], "wrong words")

    def test_it_is_checked_ahead_of_names_and_amounts(self):
        self.assert_last_fault(["device a", "device a a"], "wrong words")
        self.assert_last_fault(CLOCK + ["clock c of A"], "wrong words")
        self.assert_last_fault(CLOCK + ["kind k 0 none"], "wrong words")
        self.assert_last_fault(LINK + ["kind k -1 -"], "wrong words")
        self.assert_last_fault(["faults 0", "faults -0"], "wrong words")
        self.assert_last_fault(TWO + ["link l from x to x y"], "wrong words")


class GivenTwiceTest(FaultsTest):
    def test_devices(self):
        self.assert_last_fault(["device a", "device a"], "given twice")
        self.assert_last_fault(["device a", "device b", "device c", "device b"], "given twice")

    def test_parts(self):
        self.assert_last_fault(CLOCK + ["clock c of a"], "given twice")
        self.assert_last_fault(CLOCK + ["clock c of b goes on asleep"], "given twice")
        self.assert_last_fault(LINK + ["link l from b to a"], "given twice")
        self.assert_last_fault(SOURCE + ["source s at b"], "given twice")
        self.assert_last_fault(CLOCK + ["kind k 1 1", "source s at a", "kind k 1 1", "clock c of a"], "given twice")

    def test_kinds(self):
        for part in [CLOCK, LINK, SOURCE]:
            self.assert_last_fault(part + ["kind k 1 2", "kind k 1 2"], "given twice")
            self.assert_last_fault(part + ["kind k 1 2", "kind m 1 2", "kind n 3 4", "kind m 5 6"], "given twice")

    def test_the_same_kind_name_in_two_parts(self):
        self.assert_right(
            CLOCK + ["kind k 1 2", "clock d of a", "kind k 1 2", "source s at a", "kind k 1 2", "link l from a to b",
                     "kind k 1 2", "link m from b to a", "kind k 1 2"]
        )

    def test_the_same_name_in_two_sorts(self):
        self.assert_right(
            ["device x", "device y", "clock x of x", "kind x 1 1", "link x from x to y", "kind x 1 1",
             "link y from y to x", "kind y 1 1", "source x at y", "kind x 1 1"]
        )

    def test_faults(self):
        for first, second in itertools.product(["0", "1", "2"], repeat=2):
            self.assert_last_fault([f"faults {first}", "device a", f"faults {second}"], "given twice")

    def test_it_is_checked_ahead_of_devices_and_amounts(self):
        self.assert_last_fault(CLOCK + ["clock c of x"], "given twice")
        self.assert_last_fault(LINK + ["link l from x to y"], "given twice")
        self.assert_last_fault(LINK + ["link l from a to a"], "given twice")
        self.assert_last_fault(SOURCE + ["source s at x"], "given twice")
        self.assert_last_fault(CLOCK + ["kind k 1 2", "kind k 0 0"], "given twice")
        self.assert_last_fault(LINK + ["kind k 1 2", "kind k 5 1"], "given twice")
        self.assert_last_fault(["faults 1", "faults 3"], "given twice")


class NoSuchDeviceTest(FaultsTest):
    def test_each_place(self):
        self.assert_last_fault(TWO + ["clock c of x"], "no such device")
        self.assert_last_fault(TWO + ["clock c of x goes on asleep"], "no such device")
        self.assert_last_fault(TWO + ["link l from x to b"], "no such device")
        self.assert_last_fault(TWO + ["link l from a to x"], "no such device")
        self.assert_last_fault(TWO + ["source s at x"], "no such device")

    def test_a_later_line_does_not_help(self):
        self.assert_fault(["clock c of a", "kind k 1 1", "device a"], 1, "no such device")
        self.assert_fault(["device a", "link l from a to b", "kind k 1 1", "device b"], 2, "no such device")

    def test_the_name_of_a_part_is_not_one_of_a_device(self):
        self.assert_last_fault(CLOCK + ["kind k 1 1", "clock d of c"], "no such device")
        self.assert_last_fault(CLOCK + ["kind k 1 1", "source c at c"], "no such device")

    def test_it_is_checked_ahead_of_the_same_device(self):
        self.assert_last_fault(TWO + ["link l from x to x"], "no such device")


class SameDeviceTest(FaultsTest):
    def test_it(self):
        self.assert_last_fault(TWO + ["link l from a to a"], "same device")
        self.assert_last_fault(TWO + ["link l from b to b"], "same device")

    def test_it_is_checked_ahead_of_too_many(self):
        nine = [line for at in range(9) for line in (f"clock c{at} of a", "kind k 1 1")]
        self.assert_last_fault(TWO + nine + ["link l from a to a"], "same device")


class AmountsTest(FaultsTest):
    def test_below_0(self):
        for part in [LINK, SOURCE]:
            self.assert_last_fault(part + ["kind k -1 5"], "below 0")
            self.assert_last_fault(part + ["kind k -999999999999 5"], "below 0")
        self.assert_last_fault(LINK + ["kind k -1 none"], "below 0")
        self.assert_last_fault(SOURCE + ["kind k 5 -1"], "below 0")
        self.assert_last_fault(SOURCE + ["kind k -1 -1"], "below 0")
        self.assert_last_fault(SOURCE + ["kind k 0 -000000000001"], "below 0")

    def test_not_above_0(self):
        for low in ["0", "-0", "-1", "-999999999999"]:
            self.assert_last_fault(CLOCK + [f"kind k {low} 5"], "not above 0")

    def test_upper_below_lower(self):
        self.assert_last_fault(CLOCK + ["kind k 2 1"], "upper below lower")
        self.assert_last_fault(CLOCK + ["kind k 1 0"], "upper below lower")
        self.assert_last_fault(CLOCK + ["kind k 1 -5"], "upper below lower")
        self.assert_last_fault(LINK + ["kind k 1 0"], "upper below lower")
        self.assert_last_fault(LINK + ["kind k 0 -1"], "upper below lower")
        self.assert_last_fault(LINK + ["kind k 999999999999 999999999998"], "upper below lower")

    def test_below_comes_ahead_of_upper_below_lower(self):
        self.assert_last_fault(CLOCK + ["kind k 0 -1"], "not above 0")
        self.assert_last_fault(LINK + ["kind k -1 -2"], "below 0")

    def test_the_limits_themselves(self):
        self.assert_right(CLOCK + ["kind k 1 1", "kind m 1 999999999999"])
        self.assert_right(SOURCE + ["kind k 0 0", "kind m 999999999999 0", "kind n 0 1"])
        self.assert_right(LINK + ["kind k 0 0", "kind m 0 none", "link m from b to a", "kind k 5 5"])

    def test_amounts_come_ahead_of_too_many(self):
        four = ["kind k1 1 1", "kind k2 1 1", "kind k3 1 1", "kind k4 1 1"]
        self.assert_last_fault(CLOCK + four + ["kind k5 0 1"], "not above 0")
        self.assert_last_fault(SOURCE + four + ["kind k5 0 -1"], "below 0")
        self.assert_last_fault(LINK + four + ["kind k5 2 1"], "upper below lower")


class TooManyTest(FaultsTest):
    def clocks(self, count):
        return [line for at in range(count) for line in (f"clock c{at} of a", "kind k 1 1")]

    def test_devices(self):
        devices = [f"device d{at}" for at in range(6)]
        clock = ["clock c of d5", "kind k 1 1"]
        self.assert_right(devices + clock)
        self.assert_last_fault(devices + ["device d6"], "too many")
        self.assert_last_fault(devices + clock + ["device d6"], "too many")
        self.assert_last_fault(devices + ["device d0"], "given twice")

    def test_parts(self):
        self.assert_right(["device a"] + self.clocks(9))
        self.assert_last_fault(["device a"] + self.clocks(9) + ["clock d of a"], "too many")
        self.assert_last_fault(["device a"] + self.clocks(9) + ["source s at a"], "too many")
        self.assert_last_fault(TWO + self.clocks(9) + ["link l from a to b"], "too many")
        self.assert_last_fault(TWO + self.clocks(9) + ["clock c0 of a"], "given twice")
        self.assert_last_fault(TWO + self.clocks(9) + ["clock d of x"], "no such device")

    def test_parts_of_all_sorts_count_together(self):
        parts = self.clocks(3)
        for at in range(3):
            parts += [f"link l{at} from {'ab'[at % 2]} to {'ba'[at % 2]}", "kind k 1 1"]
            parts += [f"source s{at} at b", "kind k 1 1"]
        self.assert_right(TWO + parts)
        for line in ["clock x of a", "link x from a to b", "source x at a"]:
            self.assert_last_fault(TWO + parts + [line], "too many")

    def test_kinds(self):
        four = ["kind k1 1 1", "kind k2 1 1", "kind k3 1 1", "kind k4 1 1"]
        self.assert_right(CLOCK + four)
        self.assert_right(SOURCE + four)
        self.assert_right(LINK + four + ["link m from b to a"] + four)
        for part in [CLOCK, LINK, SOURCE]:
            self.assert_last_fault(part + four + ["kind k5 1 1"], "too many")
            self.assert_last_fault(part + four + ["", "kind k5 1 1"], "too many")
            self.assert_last_fault(part + four + ["kind k4 1 1"], "given twice")

    def test_faults(self):
        self.assert_right(["device a", "faults 2"] + self.clocks(3))
        for count in ["3", "4", "003", "999999999999"]:
            self.assert_last_fault([f"faults {count}"], "too many")
            self.assert_last_fault(["device a"] + self.clocks(9) + [f"faults {count}"], "too many")


class WholeTextTest(FaultsTest):
    def test_no_device(self):
        for text, line in [("", 2), ("\n", 3), ("\n\n", 4), ("# device a", 2), ("  ", 2), ("faults 0", 2),
                           ("faults 2\n", 3)]:
            self.assert_fault(text, line, "no device")

    def test_no_kind(self):
        for part in [CLOCK, LINK, SOURCE]:
            self.assert_fault(part, 4, "no kind")
            self.assert_fault(part + [""], 5, "no kind")
            self.assert_fault(part + ["kind k 1 1", "clock x of b"], 6, "no kind")
        self.assert_fault(CLOCK + ["clock d of a", "kind k 1 1"], 6, "no kind")
        self.assert_fault(CLOCK + ["source s at a", "kind k 1 1"], 6, "no kind")
        self.assert_fault(LINK + ["link m from b to a", "kind k 1 1"], 6, "no kind")

    def test_no_kind_comes_ahead_of_the_others(self):
        self.assert_fault(CLOCK + ["faults 1"], 5, "no kind")
        self.assert_fault(LINK, 4, "no kind")

    def test_too_few_parts(self):
        self.assert_fault(["device a"], 2, "too few parts")
        self.assert_fault(["device a", ""], 3, "too few parts")
        self.assert_fault(["device a", "faults 0"], 3, "too few parts")
        self.assert_fault(RIGHT + ["faults 1"], 5, "too few parts")
        self.assert_fault(RIGHT + ["faults 2"], 5, "too few parts")
        self.assert_fault(RIGHT + ["clock d of a", "kind k 1 1", "faults 2", ""], 8, "too few parts")
        self.assert_right(RIGHT)
        self.assert_right(RIGHT + ["clock d of a", "kind k 1 1", "faults 1"])
        self.assert_right(RIGHT + ["clock d of a", "kind k 1 1", "source s at a", "kind k 1 1", "faults 2"])

    def test_too_few_parts_comes_ahead_of_no_link_back(self):
        self.assert_fault(LINK + ["kind k 1 1", "faults 1"], 6, "too few parts")

    def test_no_link_back(self):
        self.assert_fault(LINK + ["kind k 1 1"], 5, "no link back")
        self.assert_fault(LINK + ["kind k 1 1", ""], 6, "no link back")
        self.assert_fault(LINK + ["kind k 1 1", "link m from a to b", "kind k 1 1"], 7, "no link back")
        ring = ["device a", "device b", "device c"]
        for name, sender, receiver in ["xab", "ybc", "zca"]:
            ring += [f"link {name} from {sender} to {receiver}", "kind k 1 1"]
        self.assert_fault(ring, 10, "no link back")
        self.assert_fault(ring + ["link p from b to a", "kind k 1 1", "link q from c to b", "kind k 1 1"], 14,
                          "no link back")
        self.assert_right(ring + ["link p from b to a", "kind k 1 1", "link q from c to b", "kind k 1 1",
                                  "link r from a to c", "kind k 1 1"])

    def test_one_link_back_is_enough_for_two(self):
        self.assert_right(LINK + ["kind k 1 1", "link m from a to b", "kind k 1 1", "link n from b to a", "kind k 1 1"])


class FirstLineTest(FaultsTest):
    def test_the_first_wrong_line_is_reported(self):
        wrong = ["what", "device A", "device a", "clock d of x", "link l from a to a", "kind k 1 1"]
        reasons = ["unknown line", "wrong words", "given twice", "no such device", "same device", "unknown line"]
        for order in itertools.permutations(range(len(wrong)), 2):
            lines = ["device a"] + [wrong[at] for at in order]
            self.assert_fault(lines, 2, reasons[order[0]])

    def test_a_wrong_line_is_reported_ahead_of_the_whole(self):
        self.assert_fault(["faults 2", "faults 2"], 2, "given twice")
        self.assert_fault(CLOCK + ["what"], 4, "unknown line")

    def test_lines_without_words_are_counted(self):
        self.assert_fault("\n\n  \n# x\nwhat\n", 5, "unknown line")


if __name__ == "__main__":
    unittest.main()
