"""Point [43] and the order of the checks in the interface: the calls that make events."""

import unittest

from tests.stories import AB, BA, BC, CB, TOO, three_frame, watch_state
from whensure.errors import (
    BeginAnewFirst, CannotBeHeard, InvalidPromise, InvalidShown, InvalidText, NoGreatestTime, NotForThisDevice,
    TooManyUnderWay, UnknownItem,
)
from whensure.frame.frame import BEGINNING, Frame
from whensure.story.texts import read_letter
from whensure.watch.watch import Watch

NO_LETTER = "no letter"


def watch_of(device=0, faults=0):
    """Return a new watch of the frame with three devices."""
    return Watch(three_frame(faults), device)


def calls_of(shown):
    """Return a call of each sort for the device a, with all else as it must be."""
    return {
        "note": lambda watch: watch.note(shown),
        "wake": lambda watch: watch.wake(shown),
        "set_clock": lambda watch: watch.set_clock(shown, 0, 5),
        "tell_kind": lambda watch: watch.tell_kind(shown, 0, 1),
        "mark": lambda watch: watch.mark(shown, 0, 0, 5),
        "promise": lambda watch: watch.promise(shown, BA, 1),
        "hear": lambda watch: watch.hear(shown, letter_to_a()),
        "send": lambda watch: watch.send(shown, AB, 0),
        "tell": lambda watch: watch.tell(shown, AB),
        "commit": lambda watch: watch.commit(shown),
        "anew": lambda watch: watch.anew(shown, [1]),
    }


def letter_to_a():
    """Return the text of a letter from b to a."""
    return watch_of(1).send([0, 0], BA, 0)[1]


class CallsTest(unittest.TestCase):
    def made(self, call, device=0):
        """Return what a call returns of a new watch, and the event that it made."""
        watch = watch_of(device)
        watch.mark([4], 0, 1, 100) if device == 0 else watch.note([4, 4])
        before = watch.known_counts
        event = call(watch)
        self.assertEqual(watch.known_counts, [many + (at == device) for at, many in enumerate(before)])
        return event, watch.last_made

    def test_note(self):
        event, made = self.made(lambda watch: watch.note([7]))
        self.assertEqual((event, made), ((0, 2), (False, (7,), (7,), ("note",), (3, 1, 1))))

    def test_wake(self):
        event, made = self.made(lambda watch: watch.wake([7]))
        self.assertEqual((event, made), ((0, 2), (True, (7,), (7,), ("note",), (3, 1, 1))))

    def test_set_clock(self):
        event, made = self.made(lambda watch: watch.set_clock([7], 0, -2))
        self.assertEqual((event, made), ((0, 2), (False, (7,), (-2,), ("note",), (3, 1, 1))))
        event, made = self.made(lambda watch: watch.set_clock([7, 8], 2, 9), 1)
        self.assertEqual((event, made), ((1, 2), (False, (7, 8), (7, 9), ("note",), (1, 3, 1))))
        event, made = self.made(lambda watch: watch.set_clock([7, 8], 1, 9), 1)
        self.assertEqual(made, (False, (7, 8), (9, 8), ("note",), (1, 3, 1)))

    def test_set_clock_to_what_it_shows(self):
        event, made = self.made(lambda watch: watch.set_clock([7], 0, 7))
        self.assertEqual((event, made), ((0, 2), (False, (7,), (7,), ("kind", 0, 0), (3, 1, 1))))
        watch = watch_of(1)
        watch.tell_kind([7, 8], 2, 1)
        watch.set_clock([7, 8], 2, 8)
        self.assertEqual(watch.last_made, (False, (7, 8), (7, 8), ("kind", 2, 1), (1, 3, 1)))
        watch.set_clock([7, 8], 1, 7)
        self.assertEqual(watch.last_made, (False, (7, 8), (7, 8), ("kind", 1, 0), (1, 4, 1)))

    def test_tell_kind(self):
        event, made = self.made(lambda watch: watch.tell_kind([7, 8], 2, 1), 1)
        self.assertEqual((event, made), ((1, 2), (False, (7, 8), (7, 8), ("kind", 2, 1), (1, 3, 1))))

    def test_mark(self):
        event, made = self.made(lambda watch: watch.mark([7], 0, 1, -50))
        self.assertEqual((event, made), ((0, 2), (False, (7,), (7,), ("mark", 0, 1, -50), (3, 1, 1))))

    def test_send_and_tell(self):
        (event, text), made = self.made(lambda watch: watch.send([7], AB, 1))
        self.assertEqual((event, made), ((0, 2), (False, (7,), (7,), ("send", AB, 1), (3, 1, 1))))
        self.assertEqual(read_letter(text)[:4], (0, 1, AB, 2))
        (event, text), made = self.made(lambda watch: watch.tell([7, 8], BC), 1)
        self.assertEqual((event, made), ((1, 2), (False, (7, 8), (7, 8), ("tell", BC), (1, 3, 1))))
        self.assertEqual(read_letter(text)[:4], (1, 2, BC, 2))

    def test_promise(self):
        event, made = self.made(lambda watch: watch.promise([7], BA, 1))
        self.assertEqual((event, made), ((0, 2), (False, (7,), (7,), ("promise", BA, 1), (3, 1, 1))))

    def test_commit(self):
        (event, stamp), made = self.made(lambda watch: watch.commit([4]))
        self.assertEqual((event, made), ((0, 2), (False, (4,), (4,), ("commit", 111), (3, 1, 1))))
        self.assertEqual(stamp, 111)

    def test_anew(self):
        event, made = self.made(lambda watch: watch.anew([7, 8], (0, 1)), 1)
        self.assertEqual((event, made), ((1, 2), (False, (7, 8), (7, 8), ("anew", (0, 1)), (1, 3, 1))))
        event, made = self.made(lambda watch: watch.anew([7, 8], [0, 0]), 1)
        self.assertEqual(made[3], ("anew", (0, 0)))

    def test_hear(self):
        watch = watch_of(0)
        watch.note([3])
        self.assertEqual(watch.hear([7], letter_to_a()), (0, 2))
        self.assertEqual(watch.last_made, (False, (7,), (7,), ("hear", BA, 1), (3, 2, 1)))

    def test_what_is_passed_is_neither_changed_nor_kept(self):
        for name in calls_of([4]):
            watch = watch_of()
            watch.mark([4], 0, 1, 100)
            shown = [4]
            calls_of(shown)[name](watch)
            self.assertEqual(shown, [4], name)
            state = watch_state(watch)
            shown[0] = 99
            shown.append(1)
            self.assertEqual(watch_state(watch), state, name)
        kinds = [1]
        watch.anew([5], kinds)
        kinds.append(7)
        self.assertEqual(watch.last_made[3], ("anew", (1,)))


class CommitTest(unittest.TestCase):
    def test_the_stamp_is_the_greatest_number_of_the_new_event(self):
        watch = watch_of()
        watch.mark([4], 0, 0, 100)
        event, stamp = watch.commit([6])
        self.assertEqual(watch.between(BEGINNING, event)[-1][1], stamp)
        self.assertEqual(stamp, 102 + 33)
        self.assertEqual(watch.known.commits, [(135, 0, 2)])

    def test_over_all_choices(self):
        watch = watch_of(0, 1)
        watch.mark([4], 0, 0, 100)
        with self.assertRaises(NoGreatestTime):
            watch.commit([4])
        sources = [(name, 0, (("k", 0, 3),)) for name in ("s", "t")]
        clocks = [(name, 0, False, (("k", 1, 2),)) for name in ("c", "d")]
        watch = Watch(Frame(["a"], clocks, [], sources, 1), 0)
        watch.anew([0, 0], [0, 0])
        watch.mark([0, 0], 0, 0, 50)
        watch.mark([0, 0], 1, 0, 60)
        self.assertEqual(watch.choices, [(2,), (3,)])
        # If the first source is broken, the clocks began at 63 at the latest, and show 1 for at most 2 more units.
        self.assertEqual(watch.commit([1, 1]), ((0, 4), 67))
        self.assertEqual(watch.between(BEGINNING, (0, 4)), [(50, 57), (60, 67)])

    def test_there_is_no_greatest_number(self):
        watch = watch_of()
        before = watch_state(watch)
        with self.assertRaises(NoGreatestTime):
            watch.commit([4])
        self.assertEqual(watch_state(watch), before)

    def test_there_is_no_table(self):
        watch = watch_of()
        watch.mark([4], 0, 1, 100)
        watch.mark([4], 0, 1, 90)
        self.assertEqual(watch.choices, [])
        before = watch_state(watch)
        with self.assertRaises(NoGreatestTime):
            watch.commit([4])
        self.assertEqual(watch_state(watch), before)

    def test_the_event_itself_leaves_no_choice(self):
        watch = watch_of()
        watch.mark([4], 0, 1, 100)
        before = watch_state(watch)
        with self.assertRaises(NoGreatestTime):
            watch.commit([3])
        self.assertEqual(watch_state(watch), before)
        watch.note([3])
        self.assertEqual(watch.choices, [])


class ErrorsTest(unittest.TestCase):
    def refused(self, error, call, device=0, ready=None):
        """Check that a call raises an error and changes nothing."""
        watch = watch_of(device)
        if ready is not None:
            ready(watch)
        before = watch_state(watch)
        with self.assertRaises(error):
            call(watch)
        self.assertEqual(watch_state(watch), before)

    def test_a_watch_that_owes_a_beginning(self):
        def owe(watch):
            watch.owes = True
        for shown in ([4], [], [4, 4]):
            for name, call in calls_of(shown).items():
                if name != "anew":
                    self.refused(BeginAnewFirst, call, 0, owe)
        for call in [lambda watch: watch.set_clock([], 9, 0), lambda watch: watch.tell_kind([4], 9, 9),
                     lambda watch: watch.mark([4], 9, 0, 0), lambda watch: watch.promise([4], 9, 0),
                     lambda watch: watch.hear([4], NO_LETTER), lambda watch: watch.send([4], 9, 0),
                     lambda watch: watch.tell([4], 9)]:
            self.refused(BeginAnewFirst, call, 0, owe)
        self.refused(InvalidShown, lambda watch: watch.anew([], [0]), 0, owe)
        self.refused(UnknownItem, lambda watch: watch.anew([4], [2]), 0, owe)

    def test_anew_pays_the_beginning(self):
        watch = watch_of()
        watch.owes = True
        self.assertEqual(watch.anew([4], [0]), (0, 1))
        self.assertIs(watch.owes, False)
        self.assertEqual(watch.note([4]), (0, 2))

    def test_shown_of_another_length(self):
        for shown in ([], [4, 4]):
            for call in calls_of(shown).values():
                self.refused(InvalidShown, call)
            self.refused(InvalidShown, lambda watch: watch.set_clock(shown, 9, 0))
            self.refused(InvalidShown, lambda watch: watch.tell_kind(shown, 9, 9))
            self.refused(InvalidShown, lambda watch: watch.mark(shown, 9, 9, 0))
            self.refused(InvalidShown, lambda watch: watch.send(shown, 9, 9))
            self.refused(InvalidShown, lambda watch: watch.tell(shown, 9))
            self.refused(InvalidShown, lambda watch: watch.promise(shown, 9, 9))
            self.refused(InvalidShown, lambda watch: watch.promise(shown, BA, 9))
            self.refused(InvalidShown, lambda watch: watch.anew(shown, [9]))
            self.refused(InvalidShown, lambda watch: watch.hear(shown, NO_LETTER))
        self.refused(InvalidShown, lambda watch: watch.note([1]), 2)
        self.refused(InvalidShown, lambda watch: watch.note([1]), 1)

    def test_clocks_and_kinds_that_are_unknown(self):
        for clock in [-3, -1, 1, 2, 3]:
            self.refused(UnknownItem, lambda watch: watch.set_clock([4], clock, 4))
            self.refused(UnknownItem, lambda watch: watch.tell_kind([4], clock, 0))
            self.refused(UnknownItem, lambda watch: watch.tell_kind([4], clock, 9))
        for kind in [-1, 2]:
            self.refused(UnknownItem, lambda watch: watch.tell_kind([4], 0, kind))
        self.refused(UnknownItem, lambda watch: watch.set_clock([4, 4], 0, 4), 1)

    def test_sources_and_kinds_that_are_unknown(self):
        for source, kind in [(-1, 0), (1, 0), (0, -1), (0, 2), (9, 9)]:
            self.refused(UnknownItem, lambda watch: watch.mark([4], source, kind, 0))
        self.refused(UnknownItem, lambda watch: watch.mark([4, 4], 0, 0, 0), 1)

    def test_links_and_kinds_that_are_unknown(self):
        for link in [-5, -1, BA, BC, CB, 5]:
            self.refused(UnknownItem, lambda watch: watch.send([4], link, 0))
            self.refused(UnknownItem, lambda watch: watch.tell([4], link))
            self.refused(UnknownItem, lambda watch: watch.again(link))
        for kind in [-1, 2]:
            self.refused(UnknownItem, lambda watch: watch.send([4], AB, kind))
        self.refused(UnknownItem, lambda watch: watch.send([4], TOO, 1))
        for link in [-4, AB, BC, CB, TOO, 5]:
            self.refused(UnknownItem, lambda watch: watch.promise([4], link, 1))

    def test_kinds_of_a_beginning(self):
        for kinds in [[], [2], [-1], [0, 0]]:
            self.refused(UnknownItem, lambda watch: watch.anew([4], kinds))
        for kinds in [[0], [1, 0], [0, 2], [0, 0, 0], []]:
            self.refused(UnknownItem, lambda watch: watch.anew([4, 4], kinds), 1)
        self.assertEqual(watch_of(2).anew([], []), (2, 1))

    def test_too_many_under_way(self):
        self.refused(TooManyUnderWay, lambda watch: watch.send([4], AB, 1), 0, lambda watch: watch.send([4], AB, 0))
        self.refused(TooManyUnderWay, lambda watch: watch.tell([4], AB), 0, lambda watch: watch.tell([4], AB))

    def test_unknown_before_too_many(self):
        self.refused(UnknownItem, lambda watch: watch.send([4], AB, 2), 0, lambda watch: watch.send([4], AB, 0))

    def test_invalid_promise(self):
        for number in [-1, 0, 2, 3]:
            self.refused(InvalidPromise, lambda watch: watch.promise([4], BA, number))

        def promised(watch):
            watch.promise([4], BA, 1)
        self.refused(InvalidPromise, promised, 0, promised)
        watch = watch_of()
        watch.hear([0], letter_to_a())
        with self.assertRaises(InvalidPromise):
            watch.promise([0], BA, 1)

    def test_hear_checks_in_order(self):
        letter = letter_to_a()
        self.refused(InvalidText, lambda watch: watch.hear([4], NO_LETTER))
        self.refused(NotForThisDevice, lambda watch: watch.hear([4, 4], letter), 1)
        self.refused(NotForThisDevice, lambda watch: watch.hear([], letter), 2)
        self.refused(NotForThisDevice, lambda watch: watch.hear([4], "whensure letter\n9 9 9 9 0\n"))
        self.refused(CannotBeHeard, lambda watch: watch.hear([4], letter), 0, lambda watch: watch.hear([4], letter))
        self.refused(CannotBeHeard, lambda watch: watch.hear([4], "whensure letter\n9 0 9 9 0\n"))
        self.refused(InvalidText, lambda watch: watch.hear([4], letter + "\n"))


if __name__ == "__main__":
    unittest.main()
