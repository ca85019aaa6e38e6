"""Points [61] and [66]: the texts of papers, with whensure.papers.texts' own form of a paper."""

import copy
import random
import unittest

from whensure.errors import InvalidText
from whensure.papers.texts import read_paper, write_paper

MOST = 10**40 - 1

PAPER = (
    [
        ("ring", [5, 6, 5]),
        ("ends", [1, 0], None),
        ("ends", None, [7]),
        ("ends", [], []),
        ("ends", None, None),
        ("ring", []),
    ],
    [
        ((1, 3), [0, -4, 9], [0, 8, -9], None, None),
        ((), [], [-1], [2], []),
        ((2,), [3], [], None, [1, 0]),
    ],
)

# A letter ahead of an integer says what may stand there: f a flag, l a length, n a number of 0 or more, i an instant.
MARKED = (
    "l6 f0 l3 n5 n6 n5 f1 f1 l2 n1 n0 f0 f1 f0 f1 l1 n7 f1 f1 l0 f1 l0 f1 f0 f0 f0 l0 "
    "l3 l2 n1 n3 l3 i0 i-4 i9 l3 i0 i8 i-9 f0 f0 l0 l0 l1 i-1 f1 l1 n2 f1 l0 l1 n2 l1 i3 l0 f0 f1 l2 n1 n0"
).split()


def integers_of(marked):
    """Return the integers behind their marks."""
    return [int(word[1:]) for word in marked]


def text_of(integers):
    """Return the text of a paper with these integers."""
    return "whensure paper\n" + " ".join(map(str, integers)) + "\n"


TEXT = text_of(integers_of(MARKED))


def with_integer(at, integer):
    """Return the text with another integer at a place."""
    integers = integers_of(MARKED)
    integers[at] = integer
    return text_of(integers)


class PaperTextsTest(unittest.TestCase):
    def assert_invalid(self, text):
        with self.subTest(text), self.assertRaises(InvalidText):
            read_paper(text)

    def assert_read_and_written(self, text):
        with self.subTest(text):
            self.assertEqual(write_paper(read_paper(text)), text)

    def places_of(self, mark):
        return [at for at, word in enumerate(MARKED) if word[0] == mark]


class FormTest(PaperTextsTest):
    def test_written_sign_by_sign(self):
        self.assertEqual(write_paper(PAPER), TEXT)

    def test_a_ring_alone(self):
        self.assertEqual(write_paper(([("ring", [4, 0])], [])), "whensure paper\n1 0 2 4 0 0\n")

    def test_ends_alone(self):
        self.assertEqual(write_paper(([("ends", [4], None)], [])), "whensure paper\n1 1 1 1 4 0 0\n")

    def test_a_piece_alone(self):
        piece = ((0, 2), [1, -1], [2], None, [3, 4])
        self.assertEqual(write_paper(([], [piece])), "whensure paper\n0 1 2 0 2 2 1 -1 1 2 0 1 2 3 4\n")

    def test_no_entries_and_no_pieces(self):
        self.assertEqual(write_paper(([], [])), "whensure paper\n0 0\n")
        self.assertEqual(read_paper("whensure paper\n0 0\n"), ([], []))

    def test_read(self):
        self.assertEqual(repr(read_paper(TEXT)), repr(PAPER))

    def test_none_is_not_the_empty_sequence(self):
        _, [(_, _, _, below, above)] = read_paper("whensure paper\n0 1 0 0 0 0 1 0\n")
        self.assertEqual((below, above), (None, []))

    def test_what_is_passed_stays_as_it_was(self):
        paper = copy.deepcopy(PAPER)
        write_paper(paper)
        self.assertEqual(paper, PAPER)

    def test_what_is_read_is_new_each_time(self):
        entries, pieces = read_paper(TEXT)
        entries[0][1].append(9)
        pieces[0][1].clear()
        pieces.clear()
        self.assertEqual(read_paper(TEXT), PAPER)

    def test_written_and_read_without_loss(self):
        chance = random.Random(66)

        def numbers():
            return [chance.choice([0, 1, chance.randrange(MOST), MOST]) for _ in range(chance.randrange(4))]

        def instants():
            return [chance.choice([1, -1]) * number for number in numbers()]

        def optional():
            return chance.choice([None, numbers()])

        for _ in range(200):
            entries = [
                chance.choice([("ring", numbers()), ("ends", optional(), optional())])
                for _ in range(chance.randrange(4))
            ]
            pieces = [
                (tuple(numbers()), instants(), instants(), optional(), optional()) for _ in range(chance.randrange(4))
            ]
            text = write_paper((entries, pieces))
            self.assertEqual(repr(read_paper(text)), repr((entries, pieces)))


class DeviationsTest(PaperTextsTest):
    def test_the_first_line(self):
        rest = TEXT.split("\n", 1)[1]
        for line in ["", "whensure", "whensure letter", "whensure view", "whensure watch", "Whensure paper",
                     "whensure  paper", " whensure paper", "whensure paper ", "whensure papers", "whensure paper\r"]:
            self.assert_invalid(line + "\n" + rest)

    def test_the_lines(self):
        first, second, _ = TEXT.split("\n")
        for text in ["", "\n", first, first + "\n", first + "\n\n", first + "\n" + second, TEXT + "\n", "\n" + TEXT,
                     TEXT + TEXT, TEXT + " ", TEXT + "0", second + "\n", first + "\n\n" + second + "\n",
                     first + "\r\n" + second + "\r\n", first + " " + second + "\n"]:
            self.assert_invalid(text)

    def test_the_blanks(self):
        first, second, _ = TEXT.split("\n")
        for line in [" " + second, second + " ", second.replace(" ", "  ", 1), second.replace(" ", "\t", 1),
                     second.replace(" ", "\n", 1), second.replace(" ", "\xa0", 1), second + "\t"]:
            self.assert_invalid(f"{first}\n{line}\n")

    def test_the_integers(self):
        at = MARKED.index("i9")
        for word in ["+9", "09", "-0", "-09", "--9", "-", "", "9_9", "9.0", "x", "\u0669", "\xb2", "00"]:
            words = TEXT.split("\n")[1].split(" ")
            words[at] = word
            self.assert_invalid("whensure paper\n" + " ".join(words) + "\n")

    def test_any_sign_that_is_left_out(self):
        for at in range(len(TEXT)):
            text = TEXT[:at] + TEXT[at + 1 :]
            try:
                paper = read_paper(text)
            except InvalidText:
                continue
            # What is read nevertheless must be another paper that is written exactly so.
            self.assertEqual(write_paper(paper), text)
            self.assertNotEqual(paper, PAPER)

    def test_at_most_40_digits(self):
        for at in self.places_of("i"):
            for instant in [MOST, -MOST, 10**39, -(10**39)]:
                self.assert_read_and_written(with_integer(at, instant))
            for instant in [MOST + 1, -MOST - 1, 10**60]:
                self.assert_invalid(with_integer(at, instant))
        for at in self.places_of("n"):
            self.assert_read_and_written(with_integer(at, MOST))
            self.assert_invalid(with_integer(at, MOST + 1))

    def test_only_instants_may_be_below_0(self):
        for at, word in enumerate(MARKED):
            if word[0] == "i":
                self.assert_read_and_written(with_integer(at, -1))
            else:
                self.assert_invalid(with_integer(at, -1))

    def test_flags(self):
        for at in self.places_of("f"):
            for flag in [2, 3, -1, MOST]:
                self.assert_invalid(with_integer(at, flag))

    def test_lengths(self):
        for at in self.places_of("l"):
            for length in [-1, -2, len(MARKED) - at, 10**6, MOST]:
                self.assert_invalid(with_integer(at, length))

    def test_integers_left_over_or_missing(self):
        integers = integers_of(MARKED)
        for more in [[0], [1], [-1], [0, 0]]:
            self.assert_invalid(text_of(integers + more))
        for count in range(len(integers)):
            self.assert_invalid(text_of(integers[:count]))


if __name__ == "__main__":
    unittest.main()
