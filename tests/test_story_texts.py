"""Points [11] to [16]: the texts of letters and views."""

import copy
import random
import unittest

from whensure.errors import InvalidText
from whensure.story import texts
from whensure.story.texts import read_letter, read_view, write_letter, write_view

MOST = 10**18 - 1

# Each deed with its integers; a letter ahead of an integer says what may stand there: p a place in the table, l a
# length, n a number of 0 or more, a any integer, f a flag.
DEEDS = [
    (("note",), "p0"),
    (("kind", 1, 2), "p1 n1 n2"),
    (("mark", 3, 4, -5), "p2 n3 n4 a-5"),
    (("send", 6, 7), "p3 n6 n7"),
    (("tell", 8), "p4 n8"),
    (("hear", 9, 10), "p5 n9 n10"),
    (("promise", 11, 12), "p6 n11 n12"),
    (("commit", -13), "p7 a-13"),
    (("anew", (14, 15, 16)), "p8 l3 n14 n15 n16"),
    (("anew", ()), "p8 l0"),
]


def marked_event(at, deed):
    """Return an event with this deed, and its marked integers."""
    event = (at % 2 == 1, (-20, at), (21, 22, -23), deed[0], (at, 24))
    return event, f"f{at % 2} l2 a-20 a{at} l3 a21 a22 a-23 {deed[1]} l2 n{at} n24"


EVENTS = [marked_event(at, deed) for at, deed in enumerate(DEEDS)]
LETTER = (1, 0, 2, 30, tuple((at, 40 + at, event) for at, (event, _) in enumerate(EVENTS)))
MARKED_LETTER = (
    f"n1 n0 n2 n30 l{len(EVENTS)} " + " ".join(f"n{at} n{40 + at} {marked}" for at, (_, marked) in enumerate(EVENTS))
).split()
VIEW = [[event for event, _ in EVENTS], [], [EVENTS[3][0]]]
MARKED_VIEW = (
    f"l3 l{len(EVENTS)} " + " ".join(marked for _, marked in EVENTS) + f" l0 l1 {EVENTS[3][1]}"
).split()


def integers_of(marked):
    """Return the integers behind their marks."""
    return [int(word[1:]) for word in marked]


def text_of(head, integers):
    """Return a text with these integers."""
    return f"whensure {head}\n" + " ".join(map(str, integers)) + "\n"


LETTER_TEXT = text_of("letter", integers_of(MARKED_LETTER))
VIEW_TEXT = text_of("view", integers_of(MARKED_VIEW))
SORTS = [
    ("letter", read_letter, write_letter, LETTER, MARKED_LETTER, LETTER_TEXT),
    ("view", read_view, write_view, VIEW, MARKED_VIEW, VIEW_TEXT),
]


class TextsTest(unittest.TestCase):
    def assert_invalid(self, read, text):
        with self.subTest(text), self.assertRaises(InvalidText):
            read(text)

    def replaced(self, head, marked, at, integer):
        """Return a text with another integer at a place."""
        integers = integers_of(marked)
        integers[at] = integer
        return text_of(head, integers)


class WritingTest(TextsTest):
    def test_they_are_defined_here(self):
        for function in [read_letter, read_view, write_letter, write_view]:
            self.assertEqual(function.__module__, texts.__name__)

    def test_a_letter_sign_by_sign(self):
        event = (True, (5, -6), (7, 8), ("mark", 0, 1, -2), (3, 4))
        letter = (1, 0, 2, 9, ((1, 8, event),))
        self.assertEqual(
            write_letter(letter), "whensure letter\n1 0 2 9 1 1 8 1 2 5 -6 2 7 8 2 0 1 -2 2 3 4\n"
        )

    def test_a_view_sign_by_sign(self):
        birth = (False, (), (), ("note",), (1, 1))
        view = [[birth, (False, (3,), (4,), ("anew", (0,)), (2, 1))], [birth]]
        self.assertEqual(
            write_view(view),
            "whensure view\n2 2 0 0 0 0 2 1 1 0 1 3 1 4 8 1 0 2 2 1 1 0 0 0 0 2 1 1\n",
        )

    def test_each_deed(self):
        for head, _, write, thing, _, text in SORTS:
            with self.subTest(head):
                self.assertEqual(write(thing), text)

    def test_each_deed_alone(self):
        for deed, marked in DEEDS:
            event = (False, (), (), deed, ())
            numbers = " ".join(map(str, integers_of(marked.split())))
            with self.subTest(deed):
                self.assertEqual(write_view([[event]]), f"whensure view\n1 1 0 0 0 {numbers} 0\n")
                self.assertEqual(
                    write_letter((0, 1, 2, 3, ((4, 5, event),))),
                    f"whensure letter\n0 1 2 3 1 4 5 0 0 0 {numbers} 0\n",
                )

    def test_no_records_no_events_no_devices(self):
        self.assertEqual(write_letter((0, 1, 2, 3, ())), "whensure letter\n0 1 2 3 0\n")
        self.assertEqual(write_view([]), "whensure view\n0\n")
        self.assertEqual(write_view([[]]), "whensure view\n1 0\n")
        self.assertEqual(write_view([[], [], []]), "whensure view\n3 0 0 0\n")

    def test_what_is_passed_stays_as_it_was(self):
        for head, _, write, thing, _, _ in SORTS:
            before = copy.deepcopy(thing)
            write(thing)
            self.assertEqual(thing, before, head)


class ReadingTest(TextsTest):
    def test_a_letter_is_of_tuples(self):
        letter = read_letter(LETTER_TEXT)
        self.assertEqual(letter, LETTER)
        self.assertEqual(repr(letter), repr(LETTER))

    def test_a_view_is_of_lists_and_tuples(self):
        view = read_view(VIEW_TEXT)
        self.assertEqual(view, VIEW)
        self.assertEqual(repr(view), repr(VIEW))

    def test_asleep_is_true_or_false(self):
        for flag, asleep in [(0, False), (1, True)]:
            (((found, *_),),) = read_view(f"whensure view\n1 1 {flag} 0 0 0 0\n")
            self.assertIs(found, asleep)

    def test_no_records_no_events_no_devices(self):
        self.assertEqual(read_letter("whensure letter\n0 1 2 3 0\n"), (0, 1, 2, 3, ()))
        self.assertEqual(read_view("whensure view\n0\n"), [])
        self.assertEqual(read_view("whensure view\n1 0\n"), [[]])
        self.assertEqual(read_view("whensure view\n3 0 0 0\n"), [[], [], []])

    def test_what_is_read_is_new_each_time(self):
        view = read_view(VIEW_TEXT)
        view[0].clear()
        view[1].append("more")
        view.pop()
        self.assertEqual(read_view(VIEW_TEXT), VIEW)

    def test_whether_devices_links_and_kinds_exist_is_not_checked(self):
        big = MOST
        letter = (big, big, big, big, ((big, big, (False, (1,), (), ("kind", big, big), (big,) * 9)),))
        self.assertEqual(read_letter(write_letter(letter)), letter)
        for deed in [("mark", big, big, 0), ("send", big, big), ("tell", big), ("hear", big, big),
                     ("promise", big, big), ("anew", (big,) * 5)]:
            view = [[(True, (), (1, 2, 3), deed, ())]]
            self.assertEqual(read_view(write_view(view)), view)

    def random_event(self, chance):
        number = lambda: chance.choice([0, 1, chance.randrange(10**6), chance.randrange(10**18), MOST])
        integer = lambda: chance.choice([1, -1]) * number()
        deed = chance.choice([
            ("note",), ("kind", number(), number()), ("mark", number(), number(), integer()),
            ("send", number(), number()), ("tell", number()), ("hear", number(), number()),
            ("promise", number(), number()), ("commit", integer()),
            ("anew", tuple(number() for _ in range(chance.randrange(4)))),
        ])
        rows = [tuple(integer() for _ in range(chance.randrange(4))) for _ in range(2)]
        return (chance.random() < 0.5, *rows, deed, tuple(number() for _ in range(chance.randrange(4))))

    def test_written_and_read_without_loss(self):
        chance = random.Random(15)
        for _ in range(200):
            view = [[self.random_event(chance) for _ in range(chance.randrange(4))] for _ in range(chance.randrange(4))]
            text = write_view(view)
            self.assertEqual(repr(read_view(text)), repr(view))
            self.assertEqual(write_view(read_view(text)), text)
            records = tuple((at, at + 1, event) for events in view for at, event in enumerate(events))
            letter = tuple(chance.randrange(MOST) for _ in range(4)) + (records,)
            text = write_letter(letter)
            self.assertEqual(repr(read_letter(text)), repr(letter))
            self.assertEqual(write_letter(read_letter(text)), text)


class LinesTest(TextsTest):
    """Point [16]: a text that deviates in any character is not read."""

    def test_the_first_line(self):
        for head, read, _, _, _, text in SORTS:
            rest = text.split("\n", 1)[1]
            for line in ["", "whensure", "whensure paper", "whensure watch", "whensure " + head[:-1],
                         "Whensure " + head, "whensure  " + head, " whensure " + head, "whensure " + head + " ",
                         "whensure\t" + head, "whensure " + head + "s", "whensure" + head, "whensure " + head + "\r",
                         head, "# x", "\ufeffwhensure " + head]:
                self.assert_invalid(read, line + "\n" + rest)

    def test_the_text_of_the_other_one(self):
        self.assert_invalid(read_letter, VIEW_TEXT)
        self.assert_invalid(read_view, LETTER_TEXT)
        # The same integers are a letter and a view here, so the first line alone tells.
        for integers in ["0 0 0 0 0", "4 0 0 0 0"]:
            read_letter(f"whensure letter\n{integers}\n")
            self.assert_invalid(read_view, f"whensure letter\n{integers}\n")
            self.assert_invalid(read_letter, f"whensure view\n{integers}\n")

    def test_missing_and_further_lines(self):
        for head, read, _, _, _, text in SORTS:
            first, second, _ = text.split("\n")
            for other in ["", "\n", "\n\n", first, first + "\n", first + "\n\n", second, second + "\n", "\n" + text,
                          text + text, text + "\n", text + "0\n", text + "0", first + "\n" + text,
                          first + "\n" + second, first + " " + second + "\n", first + "\n\n" + second + "\n",
                          text + " ", text + "\n\n", "\n" + second + "\n"]:
                self.assert_invalid(read, other)

    def test_other_line_ends(self):
        for _, read, _, _, _, text in SORTS:
            for end in ["\r\n", "\r", "\x0b", "\x0c", "\x85", "\u2028"]:
                first, second, _ = text.split("\n")
                self.assert_invalid(read, first + end + second + end)
                self.assert_invalid(read, first + "\n" + second + end)
                self.assert_invalid(read, first + end + second + "\n")

    def test_blanks(self):
        for _, read, _, _, _, text in SORTS:
            first, second, _ = text.split("\n")
            words = second.split(" ")
            for other in [" " + second, second + " ", second.replace(" ", "  "), second.replace(" ", "  ", 1),
                          "  " + second, second + "  "]:
                self.assert_invalid(read, f"{first}\n{other}\n")
            for at in range(1, len(words)):
                self.assert_invalid(read, f"{first}\n{' '.join(words[:at])}  {' '.join(words[at:])}\n")
                self.assert_invalid(read, f"{first}\n{' '.join(words[:at])}\n{' '.join(words[at:])}\n")

    def test_other_white_space(self):
        for _, read, _, _, _, text in SORTS:
            first, second, _ = text.split("\n")
            for white in ["\t", "\r", "\x0b", "\x0c", "\x1f", "\xa0", "\u2003", "\u3000", ",", ", ", "_"]:
                for other in [second.replace(" ", white, 1), second.replace(" ", white), white + second,
                              second + white, second.replace(" ", " " + white, 1)]:
                    self.assert_invalid(read, f"{first}\n{other}\n")


class IntegersTest(TextsTest):
    # The place of a stamp, where any integer may stand, in the text of a view with nothing but one commit.
    COMMIT = "whensure view\n1 1 0 0 0 7 {} 0\n"

    def stamp_of(self, word):
        (((*_, deed, _),),) = read_view(self.COMMIT.format(word))
        return deed[1]

    def test_right_integers(self):
        for integer in [0, 1, -1, 9, 10, -10, 100, 10**17, -(10**17), MOST, -MOST]:
            self.assertEqual(self.stamp_of(str(integer)), integer)

    def test_wrong_signs(self):
        for word in ["+1", "+0", "-0", "--1", "-", "+", "-+1", "1-", "- 1", "", "00", "01", "-01", "007", "000", "1_0",
                     "1.0", "1.", "1e3", "0x1", "1,0", "a", "1a", "a1", "None", "True", "\xb2", "1\xb2", "\u0661",
                     "\u0967", "\uff11", "1\uff11", "\xbd", "\u2460", "\u22121", "1\t", "\t1", "0b1", "inf", "#"]:
            self.assert_invalid(read_view, self.COMMIT.format(word))

    def test_at_most_18_digits(self):
        for word in ["999999999999999999", "-999999999999999999", "100000000000000000"]:
            self.assertEqual(self.stamp_of(word), int(word))
        for word in ["1000000000000000000", "-1000000000000000000", "9999999999999999999", "-9999999999999999999",
                     "0000000000000000001", "1" + "0" * 5000]:
            self.assert_invalid(read_view, self.COMMIT.format(word))

    def test_at_most_18_digits_in_each_place(self):
        for head, read, _, _, marked, _ in SORTS:
            for at, word in enumerate(marked):
                for integer in [10**18, -(10**18)]:
                    self.assert_invalid(read, self.replaced(head, marked, at, integer))
                if word[0] == "a":
                    read(self.replaced(head, marked, at, MOST))
                    read(self.replaced(head, marked, at, -MOST))
                if word[0] == "n":
                    read(self.replaced(head, marked, at, MOST))

    def test_where_integers_may_be_below_0(self):
        for head, read, write, _, marked, _ in SORTS:
            for at, word in enumerate(marked):
                text = self.replaced(head, marked, at, -1)
                if word[0] == "a":
                    self.assertEqual(write(read(text)), text)
                else:
                    self.assert_invalid(read, text)

    def test_flags(self):
        for head, read, write, _, marked, _ in SORTS:
            for at, word in enumerate(marked):
                if word[0] == "f":
                    for flag in [0, 1]:
                        text = self.replaced(head, marked, at, flag)
                        self.assertEqual(write(read(text)), text)
                    for flag in [2, 3, 10, -1, MOST]:
                        self.assert_invalid(read, self.replaced(head, marked, at, flag))

    def test_places(self):
        for head, read, _, _, marked, _ in SORTS:
            for at, word in enumerate(marked):
                if word[0] == "p":
                    for place in [9, 10, 99, MOST, -1, -9]:
                        self.assert_invalid(read, self.replaced(head, marked, at, place))

    def test_places_around_the_table(self):
        # Enough integers follow for every deed, so that the place alone is wrong.
        for place in [-1, -2, -9, 9, 10]:
            for rest in ["0", "0 0", "0 0 0", "0 0 0 0"]:
                self.assert_invalid(read_view, f"whensure view\n1 1 0 0 0 {place} {rest}\n")

    def test_lengths(self):
        for head, read, _, _, marked, _ in SORTS:
            for at, word in enumerate(marked):
                if word[0] == "l":
                    for length in [-1, -2, -MOST, 10**6, MOST, len(marked), len(marked) - at]:
                        self.assert_invalid(read, self.replaced(head, marked, at, length))

    def test_a_length_of_one_more_than_there_is(self):
        self.assert_invalid(read_letter, "whensure letter\n0 1 2 3 1\n")
        self.assert_invalid(read_view, "whensure view\n1\n")
        self.assert_invalid(read_view, "whensure view\n2 0\n")
        self.assert_invalid(read_view, "whensure view\n1 1\n")
        self.assert_invalid(read_view, "whensure view\n1 1 0 0 0 0 1\n")
        self.assert_invalid(read_view, "whensure view\n1 1 0 0 0 8 2 0\n")

    def test_a_length_below_0_is_not_one_of_nothing(self):
        self.assert_invalid(read_letter, "whensure letter\n0 1 2 3 -1\n")
        self.assert_invalid(read_view, "whensure view\n-1\n")
        self.assert_invalid(read_view, "whensure view\n1 -1\n")
        self.assert_invalid(read_view, "whensure view\n1 1 0 -1 0 0 0\n")
        self.assert_invalid(read_view, "whensure view\n1 1 0 0 -1 0 0\n")
        self.assert_invalid(read_view, "whensure view\n1 1 0 0 0 0 -1\n")
        self.assert_invalid(read_view, "whensure view\n1 1 0 0 0 8 -1 0\n")

    def test_integers_left_over(self):
        for head, read, _, _, marked, _ in SORTS:
            for more in [[0], [1], [0, 0], [-1], [0] * 7]:
                self.assert_invalid(read, text_of(head, integers_of(marked) + more))

    def test_integers_missing(self):
        for head, read, _, _, marked, _ in SORTS:
            for count in range(len(marked)):
                self.assert_invalid(read, text_of(head, integers_of(marked)[:count]))


if __name__ == "__main__":
    unittest.main()
