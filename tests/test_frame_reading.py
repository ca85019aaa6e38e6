"""Points [5] and [6]: texts that are frames, and the words, names and numbers in them; point [10], its second part."""

import random
import unittest

from tests.samples import FULL_TEXT, WORDS_OF_THE_TABLE, fields_of, full_frame
from whensure.errors import InvalidFrame
from whensure.frame import reading
from whensure.frame.frame import Frame
from whensure.frame.reading import read_frame

SMALL_LINES = ["device a", "clock c of a", "kind k 9 11"]


def small_with(at, line):
    """Return a small text with another line in the place of one of its own."""
    lines = list(SMALL_LINES)
    lines[at] = line
    return "\n".join(lines) + "\n"


def outcome(text):
    """Return the fields of a text's frame, or the line and reason of its fault."""
    try:
        return fields_of(read_frame(text))
    except InvalidFrame as error:
        return (error.line, error.reason)


class ReadingTest(unittest.TestCase):
    def assert_wrong_words(self, text, line):
        self.assertEqual(outcome(text), (line, "wrong words"))

    def small(self, at, line):
        """Return the frame of a small text with another line."""
        return read_frame(small_with(at, line))


class WholeFramesTest(ReadingTest):
    def test_it_is_defined_here(self):
        self.assertEqual(read_frame.__module__, reading.__name__)

    def test_each_line_of_the_table(self):
        frame = read_frame(FULL_TEXT)
        self.assertIsInstance(frame, Frame)
        self.assertEqual(fields_of(frame), fields_of(full_frame()))

    def test_kinds_of_values(self):
        frame = read_frame(FULL_TEXT)
        for field in fields_of(frame)[:4]:
            self.assertIs(type(field), list)
        for part in frame.clocks + frame.links + frame.sources:
            self.assertIs(type(part), tuple)
            self.assertIs(type(part[-1]), tuple)
            for kind in part[-1]:
                self.assertIs(type(kind), tuple)
        self.assertEqual([clock[2] for clock in frame.clocks], [False, True])
        for clock in frame.clocks:
            self.assertIs(type(clock[2]), bool)
        for number in [frame.faults, frame.clocks[0][1], frame.links[0][1], frame.links[0][3][0][1]]:
            self.assertIs(type(number), int)

    def test_each_frame_is_new(self):
        first = read_frame(FULL_TEXT)
        first.devices.append("x")
        first.clocks.clear()
        self.assertEqual(fields_of(read_frame(FULL_TEXT)), fields_of(full_frame()))

    def test_faults_anywhere(self):
        lines = FULL_TEXT.replace("faults 1\n", "").splitlines()
        for at in range(len(lines) + 1):
            follows_a_kind = at < len(lines) and lines[at].startswith("kind")
            if not follows_a_kind:
                with self.subTest(at):
                    text = "\n".join(lines[:at] + ["faults 1"] + lines[at:])
                    self.assertEqual(fields_of(read_frame(text)), fields_of(full_frame()))

    def test_no_faults_line(self):
        self.assertEqual(read_frame(FULL_TEXT.replace("faults 1\n", "")).faults, 0)

    def test_mixed_order_of_parts(self):
        text = (
            "source s at a\n" "kind k 1 2\n" "link l from a to b\n" "kind k 1 2\n" "clock c of b\n" "kind k 1 2\n"
            "link m from b to a\n" "kind k 3 4\n" "clock d of a goes on asleep\n" "kind x 5 6\n" "source t at b\n"
            "kind k 7 8\n"
        )
        frame = read_frame("device b\n" + "device a\n" + text)
        self.assertEqual(frame.devices, ["b", "a"])
        self.assertEqual(
            frame.clocks, [("c", 0, False, (("k", 1, 2),)), ("d", 1, True, (("x", 5, 6),))]
        )
        self.assertEqual(frame.links, [("l", 1, 0, (("k", 1, 2),)), ("m", 0, 1, (("k", 3, 4),))])
        self.assertEqual(frame.sources, [("s", 1, (("k", 1, 2),)), ("t", 0, (("k", 7, 8),))])

    def test_devices_between_parts(self):
        frame = read_frame("device a\nclock c of a\nkind k 1 1\ndevice b\nclock d of b\nkind k 2 2\n")
        self.assertEqual(frame.devices, ["a", "b"])
        self.assertEqual([clock[1] for clock in frame.clocks], [0, 1])

    def test_order_of_kinds(self):
        frame = self.small(2, "kind z 1 2\nkind a 3 4\n\nkind m 5 6\nkind b 7 8")
        self.assertEqual(frame.clocks[0][3], (("z", 1, 2), ("a", 3, 4), ("m", 5, 6), ("b", 7, 8)))

    def test_a_source_has_no_order_of_its_amounts(self):
        frame = read_frame("device a\nsource s at a\nkind k 5 0\n")
        self.assertEqual(frame.sources[0][2], (("k", 5, 0),))

    def test_the_same_names_in_two_sorts(self):
        frame = read_frame(
            "device a\ndevice b\nclock a of a\nkind a 1 1\nlink a from a to b\nkind a 1 1\n"
            "link b from b to a\nkind b 1 1\nsource a at b\nkind a 1 1\n"
        )
        self.assertEqual(frame.clocks[0][0], "a")
        self.assertEqual(frame.links[0], ("a", 0, 1, (("a", 1, 1),)))
        self.assertEqual(frame.sources[0], ("a", 1, (("a", 1, 1),)))


class WordsTest(ReadingTest):
    def test_blanks_between_before_and_after(self):
        text = "  device   a  \n clock  c   of  a \n\n   kind k   9    11     \n"
        self.assertEqual(outcome(text), outcome("\n".join(SMALL_LINES)))

    def test_no_other_white_space_is_a_blank(self):
        for white in ["\t", "\r", "\x0b", "\x0c", "\x00", "\x1c", "\x85", "\xa0", "\u2003", "\u2028", "\u3000"]:
            with self.subTest(repr(white)):
                self.assert_wrong_words(small_with(0, "device a" + white), 1)
                self.assert_wrong_words(small_with(0, "device " + white + " a"), 1)
                self.assert_wrong_words(small_with(2, "kind k 9" + white + " 11"), 3)
                self.assertEqual(outcome(small_with(0, "device" + white + "a")), (1, "unknown line"))
                self.assertEqual(outcome(small_with(1, white + "clock c of a")), (2, "unknown line"))

    def test_only_a_line_feed_separates_lines(self):
        for end in ["\r", "\r\n", "\x0b", "\x0c", "\x85", "\u2028"]:
            with self.subTest(repr(end)):
                self.assertEqual(outcome(end.join(SMALL_LINES))[1], "wrong words")

    def test_a_line_of_white_space_alone_has_a_word(self):
        self.assertEqual(outcome("\n".join(SMALL_LINES + ["\t"])), (4, "unknown line"))

    def test_what_follows_a_sharp_is_ignored(self):
        right = outcome("\n".join(SMALL_LINES))
        for end in ["#", " # x", "#x", "# kind # again", "  ##", "#\t\r\x85"]:
            with self.subTest(end):
                self.assertEqual(outcome("\n".join(line + end for line in SMALL_LINES)), right)

    def test_a_sharp_ends_a_word(self):
        self.assertEqual(outcome(small_with(2, "kind k 9 1#1")), (3, "upper below lower"))
        self.assertEqual(self.small(2, "kind k 9 11#1").clocks[0][3], (("k", 9, 11),))
        self.assert_wrong_words(small_with(2, "kind k 9 #11"), 3)
        self.assertEqual(outcome(small_with(2, "ki#nd k 9 11")), (3, "unknown line"))

    def test_lines_without_words_anywhere(self):
        right = outcome("\n".join(SMALL_LINES))
        for at in range(len(SMALL_LINES) + 1):
            for line in ["", " ", "    ", "#", "  # kind k 1 1", "#device b"]:
                with self.subTest((at, line)):
                    lines = SMALL_LINES[:at] + [line] + SMALL_LINES[at:]
                    self.assertEqual(outcome("\n".join(lines)), right)

    def test_a_line_feed_at_the_end_or_none(self):
        text = "\n".join(SMALL_LINES)
        self.assertEqual(outcome(text), outcome(text + "\n"))
        self.assertEqual(outcome(text), outcome(text + "\n\n\n"))

    def test_too_few_and_too_many_words(self):
        for at, line in enumerate(SMALL_LINES):
            words = line.split()
            self.assert_wrong_words(small_with(at, line + " x"), at + 1)
            for count in range(1, len(words)):
                self.assert_wrong_words(small_with(at, " ".join(words[:count])), at + 1)
        ahead = "device a\ndevice b\n"
        for line in ["link l from a to b", "source s at a", "faults 0"]:
            words = line.split()
            self.assert_wrong_words(ahead + line + " x", 3)
            for count in range(1, len(words)):
                self.assert_wrong_words(ahead + " ".join(words[:count]), 3)

    def test_other_words_than_those_of_the_table(self):
        ahead = "device a\ndevice b\n"
        for line in [
            "clock c at a", "clock c from a", "clock c OF a", "link l of a to b", "link l from a at b",
            "link l to a from b", "source s of a", "source s from a", "clock c a of", "clock c of of a",
        ]:
            with self.subTest(line):
                self.assert_wrong_words(ahead + line, 3)

    def test_goes_on_asleep(self):
        self.assertIs(self.small(1, "clock c of a goes on asleep").clocks[0][2], True)
        self.assertIs(self.small(1, "clock  c of a goes  on asleep # x").clocks[0][2], True)
        self.assertIs(self.small(1, "clock c of a").clocks[0][2], False)
        for end in [
            "goes", "goes on", "goes on awake", "on asleep", "asleep", "goes asleep on", "goes on asleep x",
            "Goes on asleep", "goes off asleep", "goeson asleep", "x goes on asleep",
        ]:
            with self.subTest(end):
                self.assert_wrong_words(small_with(1, "clock c of a " + end), 2)
        self.assert_wrong_words("device a\nsource s at a goes on asleep\n", 2)
        self.assert_wrong_words("device a\ndevice b\nlink l from a to b goes on asleep\n", 3)
        self.assert_wrong_words("device a goes on asleep\n", 1)

    def test_words_of_the_table_as_names(self):
        for name in WORDS_OF_THE_TABLE + ["none"]:
            with self.subTest(name):
                frame = read_frame(
                    f"device {name}\ndevice x\nclock {name} of {name}\nkind {name} 1 1\n"
                    f"link {name} from {name} to x\nkind {name} 1 1\nlink y from x to {name}\nkind {name} 1 1\n"
                    f"source {name} at {name}\nkind {name} 1 1\n"
                )
                self.assertEqual(frame.devices, [name, "x"])
                self.assertEqual(frame.clocks, [(name, 0, False, ((name, 1, 1),))])
                self.assertEqual(frame.links[0], (name, 0, 1, ((name, 1, 1),)))
                self.assertEqual(frame.sources, [(name, 0, ((name, 1, 1),))])

    def test_a_clock_and_a_device_called_asleep_do_not_go_on(self):
        frame = read_frame("device asleep\nclock asleep of asleep\nkind asleep 1 1\n")
        self.assertEqual(frame.clocks, [("asleep", 0, False, (("asleep", 1, 1),))])


class NamesTest(ReadingTest):
    RIGHT = ["a", "z", "a0", "z9", "abcdefghijkl", "a23456789012", "aaaaaaaaaaaz"]
    WRONG = [
        "abcdefghijklm", "a234567890123", "A", "aB", "abC", "1", "1a", "0", "9z", "_", "a_b", "a-b", "-a", "a.b",
        "\xe9", "a\xe9", "\u0430", "a\u0660", "a\xb2", "a\tb", "\xdf", "a'", "a" * 100,
    ]

    def lines_with(self, name):
        """Return texts that have this name in each place of a name, each with the number of its line."""
        ahead = "device a0z\ndevice b0z\n"
        return [
            (f"device {name}", 1),
            (ahead + f"clock {name} of a0z", 3),
            (ahead + f"clock c of {name}", 3),
            (ahead + f"link {name} from a0z to b0z", 3),
            (ahead + f"link l from {name} to b0z", 3),
            (ahead + f"link l from a0z to {name}", 3),
            (ahead + f"source {name} at b0z", 3),
            (ahead + f"source s at {name}", 3),
            (ahead + f"clock c of a0z\nkind {name} 1 1", 4),
            (ahead + f"link l from a0z to b0z\nkind {name} 1 1", 4),
            (ahead + f"source s at b0z\nkind {name} 1 1", 4),
        ]

    def test_right_names(self):
        for name in self.RIGHT:
            for text, line in self.lines_with(name):
                with self.subTest(text):
                    self.assertNotEqual(outcome(text), (line, "wrong words"))
            frame = read_frame(f"device {name}\nclock {name} of {name}\nkind {name} 1 1")
            self.assertEqual(frame.devices, [name])
            self.assertEqual(frame.clocks, [(name, 0, False, ((name, 1, 1),))])

    def test_wrong_names(self):
        for name in self.WRONG:
            for text, line in self.lines_with(name):
                with self.subTest(text):
                    self.assert_wrong_words(text, line)


class NumbersTest(ReadingTest):
    PLACES = [
        ("device a\nclock c of a\nkind k {} 999999999999", 0),
        ("device a\nclock c of a\nkind k 1 {}", 1),
        ("device a\nsource s at a\nkind k {} 0", 0),
        ("device a\nsource s at a\nkind k 0 {}", 1),
        ("device a\ndevice b\nlink m from b to a\nkind k 0 0\nlink l from a to b\nkind k {} 999999999999", 0),
        ("device a\ndevice b\nlink m from b to a\nkind k 0 0\nlink l from a to b\nkind k 0 {}", 1),
    ]
    WRONG = [
        "-", "--1", "1-", "-1-", "+1", "+", "1.0", "1e3", "0x1", "1_0", "1,0", "1234567890123", "0000000000001",
        "-1234567890123", "-0000000000000", "\xb2", "\u0661", "1\u0661", "\uff11", "\xbd", "one", "None", "NONE",
        "\t1", "1\t", "\u22121",
    ]

    def numbers_of(self, text):
        """Return the two numbers of the last kind that a text gives."""
        frame = read_frame(text)
        part = (frame.clocks + frame.sources + frame.links)[-1]
        return part[-1][-1][1:]

    def test_right_numbers(self):
        for word, number in [
            ("1", 1), ("9", 9), ("10", 10), ("01", 1), ("007", 7), ("000000000001", 1), ("100000000000", 10**11),
            ("999999999999", 10**12 - 1),
        ]:
            for text, place in self.PLACES:
                with self.subTest((text, word)):
                    self.assertEqual(self.numbers_of(text.format(word))[place], number)

    def test_zero(self):
        for word in ["0", "-0", "00", "-00", "000000000000", "-000000000000"]:
            for text, place in self.PLACES[2:]:
                with self.subTest((text, word)):
                    self.assertEqual(self.numbers_of(text.format(word))[place], 0)

    def test_a_minus_belongs_to_a_number(self):
        # Words are right and the number below 0, so another reason than wrong words is given.
        for word in ["-1", "-01", "-999999999999", "-000000000001"]:
            for text, _ in self.PLACES:
                with self.subTest((text, word)):
                    self.assertIn(outcome(text.format(word))[1], ["below 0", "not above 0", "upper below lower"])

    def test_wrong_numbers(self):
        for word in self.WRONG:
            for text, _ in self.PLACES:
                with self.subTest((text, word)):
                    self.assert_wrong_words(text.format(word), text.count("\n") + 1)

    def test_none_stands_only_in_place_of_most(self):
        *others, most = self.PLACES
        self.assertEqual(self.numbers_of(most[0].format("none")), (0, None))
        for text, _ in others:
            with self.subTest(text):
                self.assert_wrong_words(text.format("none"), text.count("\n") + 1)
        self.assert_wrong_words("device a\nfaults none\n", 2)

    def test_none_is_none_whatever_least_is(self):
        frame = read_frame(self.PLACES[5][0].format("none").replace("k 0 none", "k 999999999999 none"))
        self.assertEqual(frame.links[1][3], (("k", 999999999999, None),))

    def test_faults_are_digits_without_a_minus(self):
        ahead = "device a\nclock c of a\nkind k 1 1\nclock d of a\nkind k 1 1\nclock e of a\nkind k 1 1\n"
        for word, number in [("0", 0), ("1", 1), ("2", 2), ("00", 0), ("000000000002", 2)]:
            with self.subTest(word):
                self.assertEqual(read_frame(ahead + "faults " + word).faults, number)
        for word in self.WRONG + ["-0", "-1", "-00", "-000000000002", "none"]:
            with self.subTest(word):
                self.assert_wrong_words(ahead + "faults " + word, 8)


class SameWordsTest(ReadingTest):
    """Point [10]: what a text says depends only on the words of its lines."""

    TEXTS = [
        FULL_TEXT,
        "\n".join(SMALL_LINES),
        "",
        "device a\n",
        "device a\nclock c of b\n",
        "device a\nclock c of a\n\nkind k 3 2\n",
        "device a\nclock c of a\nkind k 3 3\nkind k 1 1\n",
        "device a\ndevice b\nlink l from a to b\nkind k 1 none\n",
        "device a\nfaults -1\n",
        "\n\nwhat\n",
        FULL_TEXT.replace("source s at b", "source s at c"),
    ]

    def rewritten(self, chance, text):
        """Return another text whose lines have the same words."""
        lines = []
        for line in text.split("\n"):
            words = line.split()
            between = [" " * chance.randint(1, 3) for _ in words]
            line = " " * chance.randint(0, 2) + "".join(word + blank for word, blank in zip(words, between))
            if not words or chance.random() < 0.5:
                line += chance.choice(["", "#", "# kind k 1 2", "#\tx"])
            lines.append(line)
        return "\n".join(lines)

    def test_same_frame_or_same_fault(self):
        chance = random.Random(10)
        for text in self.TEXTS:
            right = outcome(text)
            for _ in range(20):
                other = self.rewritten(chance, text)
                with self.subTest((text, other)):
                    self.assertEqual(outcome(other), right)


if __name__ == "__main__":
    unittest.main()
