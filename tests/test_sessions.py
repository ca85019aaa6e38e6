"""Points [67], [68] and [70]: watches are saved and loaded."""

import random
import unittest

from tests.runs import Run, answers_of
from tests.samples import fields_of, full_frame
from tests.stories import AB, BA, BC, TOO, three_frame, watch_state
from tests.worlds import small_frame
from whensure.errors import BeginAnewFirst, InvalidText
from whensure.frame.frame import BEGINNING, Frame
from whensure.frame.writing import write_frame
from whensure.watch import sessions as module
from whensure.watch.sessions import load_watch, save_watch
from whensure.watch.watch import Watch

HEAD = "whensure watch\n"
FRAME_TEXT = "device a\nclock c of a\nkind k 1 2\nsource s at a\nkind k 3 4\n"


def small_watch(faults=0):
    """Return the watch of a device with a clock and a source."""
    return Watch(Frame(["a"], [("c", 0, False, (("k", 1, 2),))], [], [("s", 0, (("k", 3, 4),))], faults), 0)


def codes_of(text):
    """Return the words of a text's length and of the codes of its characters."""
    return f"{len(text)} " + " ".join(str(ord(sign)) for sign in text)


def busy_watches(faults=1):
    """Return watches of three devices after deeds of every kind; there are commits only if no part may be broken."""
    a, b, c = [Watch(three_frame(faults), device) for device in range(3)]
    a.mark([3], 0, 0, -100)
    a.pin((0, 1))
    a.tell_kind([4], 0, 1)
    b.hear([7, 8], a.send([5], AB, 0)[1])
    b.pin((1, 1))
    b.pin((0, 3))
    a.tell([5], AB)
    b.set_clock([7, 9], 2, -5)
    a.hear([9], b.tell([7, -5], BA)[1])
    a.tell([9], AB)
    b.anew([8, -5], [0, 1])
    b.promise([8, -5], TOO, 4)
    c.hear([], b.tell([8, -5], BC)[1])
    if a.stamp([9]) is not None:
        a.commit([9])
    a.wake([9])
    a.set_clock([9], 0, 9)
    return a, b, c


class TextTest(unittest.TestCase):
    def test_they_are_defined_here(self):
        for function in [save_watch, load_watch]:
            self.assertEqual(function.__module__, module.__name__)

    def test_a_new_watch(self):
        self.assertEqual(save_watch(small_watch()), HEAD + " ".join([
            codes_of(FRAME_TEXT),
            "0 1 1",                    # the device, the counts
            "1 1 0 0 0",                # its last knows, and the hand of its clock
            "1 0",                      # the first kept event, none
            "0",                        # no commits
            "0",                        # no beginning is owed
            "0",                        # no pins
            "2 -1 0 -1 0 0 -1",         # two points
            "1 0 1 0 0 0 1 0",          # one table, no parts, the distances
        ]) + "\n")

    def test_after_some_events(self):
        watch = small_watch(1)
        watch.mark([5], 0, 0, 10)
        watch.pin((0, 1))
        watch.known.commits.append((-7, 0, 1))
        self.assertEqual(save_watch(watch), HEAD + " ".join([
            codes_of(FRAME_TEXT + "faults 1\n"),
            "0 1 2",
            "1 2 1 0 1 0 5 0",
            "2 0",
            "1 -7 0 1",
            "0",
            "1 0 1",
            "3 -1 0 -1 0 1 -1 0 1 0",
            "2",
            "1 0 1 0 1 14 0 1 -7 1 0 0 0 0 1 0",
            "1 1 1 0 0 0 0 1 0 1 0 0 1 2 1 0",
        ]) + "\n")

    def test_words_and_kept_events(self):
        links = [("ab", 0, 1, (("k", 0, 1), ("l", 0, 1))), ("ba", 1, 0, (("k", 0, None),))]
        frame = Frame(["a", "b"], [], links, [], 0)
        watch = Watch(frame, 0)
        watch.tell([], 0)
        watch.send([], 0, 1)
        watch.owes = True
        self.assertEqual(save_watch(watch), HEAD + " ".join([
            codes_of(write_frame(frame)),
            "0 2 3 1",
            "2 3 1", "2 1 1",
            "0 0 0 0 2 1 0 2 2 1 2 2 2 3 1", "0 0 0 0 0",
            "1 2 0 0 0 4 0 2 2 1 0 0 0 3 0 1 2 3 1", "1 0",
            "0", "1", "0",
            "4 -1 0 -1 1 0 -1 0 1 -1 0 2 -1",
            "1 0 1 0 0 0 0 0 1 0 0 0 0 0 1 0 0 0 0 1 0 1 0",
        ]) + "\n")

    def test_no_table(self):
        watch = small_watch()
        watch.mark([5], 0, 0, 10)
        watch.mark([5], 0, 0, -10)
        self.assertEqual(watch.choices, [])
        self.assertTrue(save_watch(watch).endswith(" 3 0 0 0 0 0 0\n"))

    def test_saving_changes_nothing(self):
        for watch in busy_watches():
            before = watch_state(watch)
            self.assertEqual(save_watch(watch), save_watch(watch))
            self.assertEqual(watch_state(watch), before)


class ThereAndBackTest(unittest.TestCase):
    def check(self, watch):
        """Check that a watch is equal after it was saved and loaded, and return the loaded one."""
        text = save_watch(watch)
        loaded = load_watch(text, True)
        self.assertIsInstance(loaded, Watch)
        self.assertEqual(watch_state(loaded), watch_state(watch))
        self.assertEqual(fields_of(loaded.frame), fields_of(watch.frame))
        self.assertEqual(save_watch(loaded), text)
        return loaded

    def test_new_watches(self):
        for frame in [three_frame(), three_frame(2), full_frame()]:
            for device in range(len(frame.devices)):
                self.check(Watch(frame, device))

    def test_busy_watches(self):
        for faults in (0, 1, 2):
            for watch in busy_watches(faults):
                self.check(watch)
        self.assertEqual(len(busy_watches(0)[0].known.commits), 1)
        self.assertEqual(len(busy_watches(2)[0].choices), 36)

    def test_after_an_era_was_closed(self):
        for watch in busy_watches():
            watch.close_era()
            self.check(watch)

    def test_without_a_table(self):
        watch = small_watch()
        watch.mark([5], 0, 0, 10)
        watch.pin((0, 1))
        watch.mark([5], 0, 0, -10)
        loaded = self.check(watch)
        self.assertEqual((loaded.choices, loaded.pins), ([], [(0, 1)]))
        self.assertEqual(loaded.between((0, 1), (0, 2)), [])

    def test_what_is_loaded_is_independent(self):
        for place in range(3):
            watch = busy_watches()[place]
            before = watch_state(watch)
            loaded = load_watch(save_watch(watch), True)
            shown = [20 for _ in watch.frame.clocks_of(place)]
            loaded.anew(shown, [0] * len(shown))
            loaded.pin(loaded.live[-1])
            loaded.close_era()
            self.assertEqual(watch_state(watch), before)
            other = load_watch(save_watch(watch), True)
            watch.note(shown)
            self.assertEqual(watch_state(other), before)

    def test_loaded_watches_go_on_alike(self):
        for seed in range(60):
            chance = random.Random(seed)
            run = Run(small_frame(chance, chance.randint(0, 2), sources=2), chance)
            for step in range(60):
                run.step()
                if step % 9 == 8:
                    device = chance.randrange(len(run.watches))
                    loaded = load_watch(save_watch(run.watches[device]), True)
                    self.assertEqual(watch_state(loaded), watch_state(run.watches[device]))
                    run.watches[device] = loaded

    def test_large_numbers(self):
        watch = small_watch()
        watch.note([10**18 - 1])
        watch.set_clock([10**18 - 1], 0, 1 - 10**18)
        watch.mark([10**18 - 1], 0, 0, 10**12)
        self.check(watch)


class SureTest(unittest.TestCase):
    def test_sure(self):
        for watch in busy_watches():
            self.assertIs(load_watch(save_watch(watch), True).owes, False)

    def test_not_sure(self):
        watch = busy_watches()[0]
        loaded = load_watch(save_watch(watch), False)
        self.assertIs(loaded.owes, True)
        self.assertEqual(watch_state(loaded)[2:], watch_state(watch)[2:])

    def test_a_watch_that_owes_a_beginning(self):
        watch = busy_watches()[0]
        loaded = load_watch(save_watch(watch), False)
        for _ in range(3):
            loaded = load_watch(save_watch(loaded), True)
            self.assertIs(loaded.owes, True)
        self.assertIs(load_watch(save_watch(loaded), False).owes, True)
        loaded.anew([5], [0])
        self.assertIs(loaded.owes, False)
        self.assertIs(load_watch(save_watch(loaded), True).owes, False)

    def test_what_it_does_and_does_not_do(self):
        watch = load_watch(save_watch(busy_watches()[0]), False)
        with self.assertRaises(BeginAnewFirst):
            watch.note([9])
        with self.assertRaises(BeginAnewFirst):
            watch.stamp([9])
        self.assertEqual(watch.between(BEGINNING, BEGINNING), [(0, 0)])
        watch.unpin((0, 1))
        watch.pin(watch.live[-1])
        watch.close_era()
        self.assertIsNotNone(watch.again(AB))
        self.assertEqual(answers_of(watch), answers_of(load_watch(save_watch(watch), True)))
        watch.front()
        watch.log()


class InvalidTextTest(unittest.TestCase):
    def refused(self, text):
        """Check that a text is refused, whether sure or not."""
        for sure in (True, False):
            with self.assertRaises(InvalidText):
                load_watch(text, sure)

    def setUp(self):
        watch = small_watch(1)
        watch.mark([5], 0, 0, 10)
        watch.pin((0, 1))
        self.text = save_watch(watch)
        self.words = self.text.split("\n")[1].split(" ")
        self.after_frame = 1 + int(self.words[0])

    def text_with(self, words):
        """Return a text with these words."""
        return HEAD + " ".join(words) + "\n"

    def test_the_text_itself_is_right(self):
        self.assertEqual(self.text_with(self.words), self.text)
        load_watch(self.text, True)

    def test_the_first_line_and_line_feeds(self):
        for text in ["", HEAD, self.text[:-1], self.text + "\n", self.text.upper(), "\n" + self.text,
                     self.text.replace("watch", "view"), self.text.replace("watch", "watch "), self.text[1:],
                     self.text.replace("\n", "\r\n"), " " + self.text]:
            self.refused(text)

    def test_other_blanks(self):
        line = self.text.split("\n")[1]
        for changed in [" " + line, line + " ", line.replace(" ", "  ", 1), line.replace(" ", "\t", 1)]:
            self.refused(f"{HEAD}{changed}\n")

    def test_integers_written_otherwise(self):
        for at, word in enumerate(self.words):
            for other in ["0" + word, "+" + word, "-0" if word == "0" else word + "x", ""]:
                self.refused(self.text_with([*self.words[:at], other, *self.words[at + 1:]]))

    def test_integers_that_are_missing_or_left_over(self):
        for many in range(len(self.words)):
            self.refused(self.text_with(self.words[:many]))
        for more in ["0", "1", "7"]:
            self.refused(self.text_with([*self.words, more]))

    def test_too_many_digits(self):
        place = len(self.words) - 1
        self.assertEqual(self.words[place - 1], "1")
        load_watch(self.text_with([*self.words[:place], "9" * 40]), True)
        self.refused(self.text_with([*self.words[:place], "9" * 41]))
        self.refused(self.text_with([*self.words[:place], "-" + "9" * 41]))

    def test_lengths_below_0(self):
        rest = self.words[self.after_frame:]
        # The places of lengths: counts, knows, kept events, commits, pins, points, tables, the parts of a choice.
        self.assertEqual(rest[:20], "0 1 2 1 2 1 0 1 0 5 0 2 0 0 0 1 0 1 3 -1".split(" "))
        for place in [1, 3, 12, 13, 15, 18, 28, 29]:
            changed = [*rest[:place], "-1", *rest[place + 1:]]
            self.refused(self.text_with([*self.words[:self.after_frame], *changed]))
        self.refused(self.text_with(["-1", *self.words[1:]]))

    def test_flags_that_are_neither_0_nor_1(self):
        rest = self.words[self.after_frame:]
        for place in [5, 14, 31]:
            self.assertIn(rest[place], ["0", "1"])
            for other in ["2", "-1"]:
                changed = [*rest[:place], other, *rest[place + 1:]]
                self.refused(self.text_with([*self.words[:self.after_frame], *changed]))

    def with_frame(self, text):
        """Return the words with another text in place of the frame's."""
        return self.text_with([*codes_of(text).split(" "), *self.words[self.after_frame:]])

    def test_frames_that_are_none_or_not_the_written_form(self):
        right = FRAME_TEXT + "faults 1\n"
        self.assertEqual(self.with_frame(right), self.text)
        for wrong in [
            right[:-1], right + "\n", right + "# more\n", right.replace("faults 1", "faults  1"),
            right.replace("device a", "device a "), right.replace("faults 1", "faults 01"),
            right.replace("kind k 1 2\n", ""), right.replace("1 2", "2 1"), right.replace("clock", "Clock"), "x",
            right.replace("kind k 3 4", "kind k 3 -4"),
            right.replace("faults 1\n", "faults 0\n"), right.replace("clock c", "clock " + "c" * 13),
            "faults 1\n" + FRAME_TEXT,
        ]:
            self.refused(self.with_frame(wrong))
        self.refused(HEAD + "0 " + " ".join(self.words[self.after_frame:]) + "\n")

    def test_codes_that_no_frame_has(self):
        for code in ["-1", "0", "9", "13", "31", "35", "64", "126", "127", "128", "200", "1000000", "9" * 40]:
            self.refused(self.text_with([self.words[0], code, *self.words[2:]]))

    def test_a_device_that_the_frame_does_not_have(self):
        for device in ["1", "2", "-1", "99"]:
            changed = [*self.words[:self.after_frame], device, *self.words[self.after_frame + 1:]]
            self.refused(self.text_with(changed))

    def test_counts_for_another_number_of_devices(self):
        for counts in ["0", "2 2 2", "2 2 1", "3 1 1 1"]:
            changed = [*self.words[:self.after_frame + 1], *counts.split(" "), *self.words[self.after_frame + 3:]]
            self.refused(self.text_with(changed))

    def test_a_deed_that_is_not_in_the_table(self):
        links = [("ab", 0, 1, (("k", 0, 1),)), ("ba", 1, 0, (("k", 0, None),))]
        watch = Watch(Frame(["a", "b"], [], links, [], 0), 0)
        watch.note([])
        text = save_watch(watch)
        # The kept event: not asleep, nothing shown before and after, the deed note, and its knows.
        self.assertEqual(text.count(" 1 1 0 0 0 0 2 2 1 "), 1)
        for deed in ["9", "-1"]:
            self.refused(text.replace(" 1 1 0 0 0 0 2 2 1 ", f" 1 1 0 0 0 {deed} 2 2 1 "))
        self.refused(text.replace(" 1 1 0 0 0 0 2 2 1 ", " 1 1 2 0 0 0 2 2 1 "))


if __name__ == "__main__":
    unittest.main()
