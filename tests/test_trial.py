"""Points [71] to [76]: trials, call by call."""

import copy
import unittest

from tests.samples import fields_of
from tests.stories import watch_state
from whensure.errors import NotPossible
from whensure.frame.frame import BEGINNING, Frame
from whensure.story.texts import read_letter
from whensure.trial import trial as module
from whensure.trial.trial import Trial
from whensure.watch.watch import Watch

# The parts: the clocks p, q and r, the links ab and ba, the sources s and t.
P, Q, R = range(3)
AB, BA = range(2)
S, T = range(2)


def trial_frame(faults=0):
    """Return a frame with two devices, three clocks, two links and two sources."""
    return Frame(
        ["a", "b"],
        [
            ("p", 0, False, (("k", 9, 12), ("l", 3, 3))),
            ("q", 1, True, (("k", 4, 4),)),
            ("r", 1, False, (("k", 1, 2), ("l", 5, 8))),
        ],
        [("ab", 0, 1, (("k", 2, 5), ("l", 3, None))), ("ba", 1, 0, (("k", 0, 0),))],
        [("s", 0, (("k", 1, 2), ("l", 0, 0))), ("t", 1, (("k", 3, 3),))],
        faults,
    )


def state_of(trial):
    """Return all that can be asked of a trial, and what its clocks do, to be compared."""
    devices = range(len(trial.frame.devices))
    return (
        trial.now, list(trial.broken), trial.letter_count,
        [trial.letter_text(letter) for letter in range(trial.letter_count)],
        [trial.is_asleep(device) for device in devices], [trial.shown_by(device) for device in devices],
        [(clock.number, clock.phase, clock.pace, clock.kind) for clock in trial.clocks],
        [watch_state(trial.watch_of(device)) for device in devices], [trial.view_of(device) for device in devices],
        dict(trial.instants), list(trial.letters), copy.deepcopy(trial.story),
    )


class TrialCase(unittest.TestCase):
    def refused(self, trial, call):
        """Check that a call is not possible, and that nothing changes."""
        before = state_of(trial)
        with self.assertRaises(NotPossible):
            call(trial)
        self.assertEqual(state_of(trial), before)


class InterfaceTest(unittest.TestCase):
    def test_it_is_defined_here_with_all_that_the_interface_lists(self):
        self.assertEqual(Trial.__module__, module.__name__)
        names = (
            "pass_time set_pace jump sleep pin unpin note wake set_clock tell_kind mark promise anew hear commit send "
            "tell again shows shown_by is_asleep time_of letter_text watch_of view_of"
        )
        for name in names.split():
            self.assertTrue(callable(vars(Trial)[name]), name)
        self.assertIsInstance(vars(Trial)["letter_count"], property)

    def test_at_first(self):
        frame = trial_frame(1)
        trial = Trial(frame)
        self.assertIs(trial.frame, frame)
        self.assertEqual((trial.now, trial.broken, trial.letter_count), (0, [], 0))
        self.assertEqual([trial.shows(clock) for clock in range(3)], [0, 0, 0])
        self.assertEqual([trial.shown_by(device) for device in (0, 1)], [[0], [0, 0]])
        self.assertEqual([trial.is_asleep(device) for device in (0, 1)], [False, False])
        self.assertEqual([trial.time_of(event) for event in [BEGINNING, (0, 0), (1, 0)]], [0, 0, 0])
        for device in (0, 1):
            self.assertIsInstance(trial.watch_of(device), Watch)
            self.assertEqual(watch_state(trial.watch_of(device)), watch_state(Watch(frame, device)))
            self.assertEqual(trial.view_of(device), [[(False, (), (), ("note",), (1, 1))]] * 2)

    def test_calls_that_return_nothing(self):
        trial = Trial(trial_frame())
        self.assertIsNone(trial.pass_time(3))
        self.assertIsNone(trial.set_pace(P, 10))
        self.assertIsNone(trial.jump(P, 10))
        self.assertIsNone(trial.pin(0, (0, 0)))
        self.assertIsNone(trial.unpin(0, (0, 0)))
        self.assertIsNone(trial.sleep(0))

    def test_trials_are_independent(self):
        frame = trial_frame()
        first, second = Trial(frame), Trial(frame)
        before = state_of(second)
        first.pass_time(40)
        first.jump(P, 4)
        first.note(0)
        first.sleep(1)
        first.tell(AB)
        self.assertEqual(state_of(second), before)
        self.assertEqual(fields_of(frame), fields_of(trial_frame()))

    def test_lists_are_new(self):
        trial = Trial(trial_frame())
        trial.note(0)
        before = state_of(trial)
        trial.shown_by(1).clear()
        for events in trial.view_of(0):
            events.clear()
        trial.view_of(1).clear()
        self.assertEqual(state_of(trial), before)


class TimeTest(TrialCase):
    def test_now(self):
        trial = Trial(trial_frame())
        for amount, now in [(0, 0), (5, 5), (0, 5), (10**12, 10**12 + 5)]:
            trial.pass_time(amount)
            self.assertEqual(trial.now, now)
        self.refused(trial, lambda trial: trial.pass_time(-1))

    def test_what_clocks_show(self):
        trial = Trial(trial_frame())
        # The paces: (9 + 12) // 2, 4, and (1 + 2) // 2.
        for amount, shown in [(0, [0, 0, 0]), (3, [0, 0, 3]), (1, [0, 1, 4]), (5, [0, 2, 9]), (1, [1, 2, 10]),
                              (29, [3, 9, 39]), (1, [4, 10, 40]), (1000, [104, 260, 1040])]:
            trial.pass_time(amount)
            self.assertEqual([trial.shows(clock) for clock in range(3)], shown)
        self.assertEqual([trial.shown_by(device) for device in (0, 1)], [[104], [260, 1040]])
        self.assertEqual(trial.broken, [])

    def test_the_phase_goes_on(self):
        trial = Trial(trial_frame())
        for number in range(40):
            self.assertEqual(trial.shows(P), number // 10)
            trial.pass_time(1)

    def test_the_times_of_events(self):
        trial = Trial(trial_frame())
        trial.pass_time(7)
        first = trial.note(0)
        trial.pass_time(2)
        second = trial.note(0)
        self.assertEqual([first, second], [(0, 1), (0, 2)])
        self.assertEqual([trial.time_of(event) for event in [(0, 0), first, second, BEGINNING]], [0, 7, 9, 0])
        for event in [(0, 3), (1, 1), (2, 0), (0, -1), (-1, 1), (-1, -1)]:
            self.refused(trial, lambda trial: trial.time_of(event))


class SleepTest(TrialCase):
    def test_clocks_stop_unless_they_go_on(self):
        trial = Trial(trial_frame())
        trial.pass_time(13)
        trial.sleep(0)
        trial.sleep(1)
        trial.pass_time(40)
        self.assertEqual([trial.shows(clock) for clock in range(3)], [1, 13, 13])
        self.assertEqual((trial.wake(0), trial.wake(1)), ((0, 1), (1, 1)))
        trial.pass_time(7)
        self.assertEqual([trial.shows(clock) for clock in range(3)], [2, 15, 20])
        self.assertEqual((trial.now, trial.broken), (60, []))

    def test_the_event_of_waking(self):
        trial = Trial(trial_frame())
        trial.sleep(1)
        trial.pass_time(8)
        self.assertIs(trial.is_asleep(1), True)
        self.assertEqual(trial.wake(1), (1, 1))
        self.assertIs(trial.is_asleep(1), False)
        self.assertEqual(trial.view_of(1)[1][1], (True, (2, 0), (2, 0), ("note",), (1, 2)))
        self.assertEqual(trial.time_of((1, 1)), 8)
        trial.note(1)
        self.assertEqual(trial.view_of(1)[1][2][0], False)

    def test_asleep_or_not_asleep(self):
        trial = Trial(trial_frame())
        self.refused(trial, lambda trial: trial.wake(0))
        trial.sleep(0)
        self.refused(trial, lambda trial: trial.sleep(0))
        trial.wake(0)
        self.refused(trial, lambda trial: trial.wake(0))
        for device in (-1, 2):
            self.refused(trial, lambda trial: trial.sleep(device))
            self.refused(trial, lambda trial: trial.wake(device))

    def test_what_a_device_that_is_asleep_does_not_do(self):
        trial = Trial(trial_frame())
        _, to_a = trial.tell(BA)
        _, told = trial.tell(AB)
        trial.sleep(0)
        for call in [
            lambda trial: trial.note(0), lambda trial: trial.set_clock(P, 5), lambda trial: trial.tell_kind(P, 0),
            lambda trial: trial.mark(S, 0, 0), lambda trial: trial.promise(BA, 1), lambda trial: trial.anew(0, [0]),
            lambda trial: trial.hear(to_a), lambda trial: trial.commit(0), lambda trial: trial.send(AB, 0),
            lambda trial: trial.tell(AB), lambda trial: trial.again(AB),
        ]:
            self.refused(trial, call)
        self.assertEqual(trial.hear(told), (1, 2))

    def test_what_is_possible_asleep(self):
        trial = Trial(trial_frame())
        trial.note(0)
        trial.sleep(0)
        trial.pin(0, (0, 1))
        self.assertEqual(trial.watch_of(0).pins, [(0, 1)])
        trial.unpin(0, (0, 1))
        trial.set_pace(P, 11)
        trial.jump(P, 77)
        trial.pass_time(50)
        self.assertEqual((trial.shows(P), trial.shown_by(0), trial.broken), (77, [77], [P]))
        self.assertEqual((trial.is_asleep(0), trial.time_of((0, 1)), len(trial.view_of(0)[0])), (True, 0, 2))


class PaceTest(TrialCase):
    def test_a_pace_within_the_kind(self):
        for pace in (9, 10, 11, 12):
            trial = Trial(trial_frame())
            trial.set_pace(P, pace)
            trial.pass_time(5 * pace - 1)
            self.assertEqual((trial.shows(P), trial.broken), (4, []))
            trial.pass_time(1)
            self.assertEqual(trial.shows(P), 5)

    def test_a_pace_beyond_the_kind(self):
        for pace in (1, 8, 13, 10**12):
            trial = Trial(trial_frame())
            trial.set_pace(P, pace)
            self.assertEqual(trial.broken, [P])
            trial.pass_time(pace)
            self.assertEqual(trial.shows(P), 1)

    def test_the_kind_by_which_the_clock_runs(self):
        trial = Trial(trial_frame())
        trial.tell_kind(R, 1)
        trial.set_pace(R, 5)
        trial.set_pace(R, 8)
        self.assertEqual(trial.broken, [])
        trial.set_pace(R, 2)
        self.assertEqual(trial.broken, [R])

    def test_a_phase_that_is_at_least_the_pace(self):
        for passed, pace, shown, rest in [
            (9, 9, 1, 9), (9, 10, 0, 1), (8, 9, 0, 1), (9, 3, 1, 3), (5, 5, 1, 5), (25, 9, 2, 4),
        ]:
            trial = Trial(trial_frame())
            trial.pass_time(passed)
            trial.set_pace(P, pace)
            self.assertEqual(trial.shows(P), shown, (passed, pace))
            trial.pass_time(rest - 1)
            self.assertEqual(trial.shows(P), shown)
            trial.pass_time(1)
            self.assertEqual(trial.shows(P), shown + 1)

    def test_not_possible(self):
        trial = Trial(trial_frame())
        for clock, pace in [(P, 0), (P, -1), (3, 5), (-1, 5)]:
            self.refused(trial, lambda trial: trial.set_pace(clock, pace))

    def test_jump(self):
        trial = Trial(trial_frame())
        trial.pass_time(19)
        trial.jump(P, -5)
        self.assertEqual((trial.shows(P), trial.broken), (-5, [P]))
        trial.pass_time(9)
        self.assertEqual(trial.shows(P), -5)
        trial.pass_time(1)
        self.assertEqual(trial.shows(P), -4)
        for clock in (-1, 3):
            self.refused(trial, lambda trial: trial.jump(clock, 5))

    def test_parts_break_once_each_in_order(self):
        trial = Trial(trial_frame())
        trial.jump(R, 5)
        trial.set_pace(P, 1)
        trial.jump(R, 6)
        trial.mark(S, 0, 99)
        trial.set_pace(P, 2)
        trial.mark(T, 0, 99)
        trial.mark(S, 0, 98)
        self.assertEqual(trial.broken, [R, P, 5, 6])


class ClocksTest(TrialCase):
    def test_set_clock(self):
        trial = Trial(trial_frame())
        trial.set_pace(P, 12)
        trial.pass_time(19)
        self.assertEqual(trial.set_clock(P, 50), (0, 1))
        self.assertEqual(trial.view_of(0)[0][1], (False, (1,), (50,), ("note",), (2, 1)))
        trial.pass_time(11)
        self.assertEqual(trial.shows(P), 50)
        trial.pass_time(1)
        self.assertEqual((trial.shows(P), trial.broken), (51, []))

    def test_set_clock_to_what_it_shows(self):
        trial = Trial(trial_frame())
        trial.set_pace(P, 9)
        trial.pass_time(17)
        trial.set_clock(P, 1)
        self.assertEqual(trial.view_of(0)[0][1][3], ("kind", P, 0))
        trial.pass_time(8)
        self.assertEqual(trial.shows(P), 1)
        trial.pass_time(1)
        self.assertEqual(trial.shows(P), 2)

    def test_tell_kind(self):
        trial = Trial(trial_frame())
        trial.set_pace(R, 2)
        trial.pass_time(3)
        self.assertEqual(trial.tell_kind(R, 1), (1, 1))
        self.assertEqual(trial.view_of(1)[1][1], (False, (0, 1), (0, 1), ("kind", R, 1), (1, 2)))
        trial.pass_time(5)
        self.assertEqual(trial.shows(R), 1)
        trial.pass_time(1)
        self.assertEqual((trial.shows(R), trial.shows(Q)), (2, 2))

    def test_tell_kind_by_which_it_runs_already(self):
        trial = Trial(trial_frame())
        trial.set_pace(P, 12)
        trial.pass_time(11)
        trial.tell_kind(P, 0)
        trial.pass_time(9)
        self.assertEqual(trial.shows(P), 0)
        trial.pass_time(1)
        self.assertEqual(trial.shows(P), 1)

    def test_anew(self):
        trial = Trial(trial_frame())
        trial.pass_time(7)
        self.assertEqual(trial.anew(1, (0, 1)), (1, 1))
        self.assertEqual(trial.view_of(1)[1][1], (False, (1, 7), (1, 7), ("anew", (0, 1)), (1, 2)))
        for passed, shown in [(3, [1, 7]), (1, [2, 7]), (1, [2, 7]), (1, [2, 8]), (6, [4, 9])]:
            trial.pass_time(passed)
            self.assertEqual(trial.shown_by(1), shown)
        self.assertEqual(trial.anew(1, [0, 0]), (1, 2))
        self.assertEqual(trial.view_of(1)[1][2][3], ("anew", (0, 0)))
        self.assertEqual(trial.shows(P), 1)

    def test_not_possible(self):
        trial = Trial(trial_frame())
        trial.pass_time(5)
        for call in [
            lambda trial: trial.set_clock(3, 5), lambda trial: trial.set_clock(-1, 5),
            lambda trial: trial.tell_kind(3, 0), lambda trial: trial.tell_kind(-1, 0),
            lambda trial: trial.tell_kind(P, 2), lambda trial: trial.tell_kind(P, -1),
            lambda trial: trial.anew(0, []), lambda trial: trial.anew(0, [0, 0]), lambda trial: trial.anew(0, [2]),
            lambda trial: trial.anew(1, [0]), lambda trial: trial.anew(2, []), lambda trial: trial.anew(-1, [0, 0]),
            lambda trial: trial.shows(3), lambda trial: trial.shows(-1), lambda trial: trial.shown_by(2),
            lambda trial: trial.shown_by(-1), lambda trial: trial.is_asleep(2), lambda trial: trial.is_asleep(-1),
            lambda trial: trial.note(2), lambda trial: trial.note(-1), lambda trial: trial.commit(2),
            lambda trial: trial.commit(-1), lambda trial: trial.watch_of(2), lambda trial: trial.watch_of(-1),
            lambda trial: trial.view_of(2), lambda trial: trial.view_of(-1),
        ]:
            self.refused(trial, call)


class MarksTest(TrialCase):
    def test_when_a_source_breaks(self):
        # True time is at most 1 earlier and at most 2 later than what the source says.
        for value in [97, 98, 99, 100, 101, 102, -5]:
            broken = not 98 <= value <= 101
            trial = Trial(trial_frame())
            trial.pass_time(100)
            self.assertEqual(trial.mark(S, 0, value), (0, 1))
            self.assertEqual(trial.broken, [5] if broken else [], value)
            self.assertEqual(trial.view_of(0)[0][1], (False, (10,), (10,), ("mark", S, 0, value), (2, 1)))

    def test_by_the_kind(self):
        for source, kind, value, broken in [
            (S, 1, 100, False), (S, 1, 99, True), (T, 0, 103, False), (T, 0, 104, True),
        ]:
            trial = Trial(trial_frame())
            trial.pass_time(100)
            trial.mark(source, kind, value)
            self.assertEqual(trial.broken, [5 + source] if broken else [])

    def test_not_possible(self):
        trial = Trial(trial_frame())
        for source, kind in [(2, 0), (-1, 0), (S, 2), (S, -1), (T, 1)]:
            self.refused(trial, lambda trial: trial.mark(source, kind, 999))

    def test_commit(self):
        trial = Trial(trial_frame())
        self.refused(trial, lambda trial: trial.commit(0))
        trial.pass_time(100)
        trial.mark(S, 1, 100)
        event, stamp = trial.commit(0)
        self.assertEqual((event, stamp), ((0, 2), 112))
        self.assertEqual(trial.view_of(0)[0][2][3], ("commit", 112))
        self.assertEqual(trial.time_of(event), 100)


class LettersTest(TrialCase):
    def test_send_and_tell(self):
        trial = Trial(trial_frame())
        trial.pass_time(5)
        self.assertEqual(trial.send(AB, 1), ((0, 1), 0))
        self.assertEqual(trial.tell(BA), ((1, 1), 1))
        self.assertEqual(trial.tell(AB), ((0, 2), 2))
        self.assertEqual(trial.letter_count, 3)
        self.assertEqual([read_letter(trial.letter_text(letter))[:4] for letter in range(3)],
                         [(0, 1, AB, 1), (1, 0, BA, 1), (0, 1, AB, 2)])
        self.assertEqual(trial.view_of(0)[0][1:], [
            (False, (0,), (0,), ("send", AB, 1), (2, 1)), (False, (0,), (0,), ("tell", AB), (3, 1)),
        ])

    def test_hear(self):
        trial = Trial(trial_frame())
        _, letter = trial.send(AB, 0)
        trial.pass_time(4)
        self.assertEqual(trial.hear(letter), (1, 1))
        self.assertEqual(trial.view_of(1), [trial.view_of(0)[0], [
            trial.view_of(0)[1][0], (False, (1, 4), (1, 4), ("hear", AB, 1), (2, 2)),
        ]])
        self.assertEqual(trial.time_of((1, 1)), 4)
        self.assertEqual(trial.letter_count, 1)

    def test_when_a_link_breaks(self):
        for kind, passed, broken in [
            (0, 0, True), (0, 1, True), (0, 2, False), (0, 5, False), (0, 6, True), (0, 500, True),
            (1, 2, True), (1, 3, False), (1, 10**9, False),
        ]:
            trial = Trial(trial_frame())
            trial.pass_time(11)
            _, letter = trial.send(AB, kind)
            trial.pass_time(passed)
            self.assertEqual(trial.broken, [])
            trial.hear(letter)
            self.assertEqual(trial.broken, [3] if broken else [], (kind, passed))

    def test_a_told_word_breaks_nothing(self):
        for passed in (0, 1000):
            trial = Trial(trial_frame())
            _, letter = trial.tell(AB)
            trial.pass_time(passed)
            trial.hear(letter)
            self.assertEqual(trial.broken, [])

    def test_again(self):
        trial = Trial(trial_frame())
        self.refused(trial, lambda trial: trial.again(AB))
        trial.send(AB, 0)
        self.refused(trial, lambda trial: trial.again(AB))
        event, first = trial.tell(AB)
        trial.pass_time(30)
        self.assertEqual(trial.again(AB), 2)
        self.assertEqual(trial.again(AB), 3)
        self.assertEqual(trial.letter_text(2), trial.watch_of(0).again(AB))
        self.assertEqual(trial.letter_text(2), trial.letter_text(first))
        self.assertEqual((trial.letter_count, event, trial.broken), (4, (0, 2), []))
        self.assertEqual(len(trial.view_of(0)[0]), 3)
        trial.hear(3)
        self.assertEqual(trial.broken, [])
        self.refused(trial, lambda trial: trial.hear(2))
        self.refused(trial, lambda trial: trial.hear(first))

    def test_the_instant_of_a_letter_is_that_of_its_word(self):
        trial = Trial(trial_frame())
        _, sent = trial.send(AB, 0)
        trial.pass_time(3)
        trial.tell(AB)
        self.assertEqual(trial.time_of((0, 1)), 0)
        trial.pass_time(2)
        trial.hear(sent)
        self.assertEqual(trial.broken, [])

    def test_not_possible(self):
        trial = Trial(trial_frame())
        _, letter = trial.send(AB, 0)
        trial.tell(AB)
        for call in [
            lambda trial: trial.send(AB, 0), lambda trial: trial.send(AB, 2), lambda trial: trial.send(BA, 1),
            lambda trial: trial.send(2, 0), lambda trial: trial.send(-1, 0), lambda trial: trial.tell(AB),
            lambda trial: trial.tell(2), lambda trial: trial.tell(-2), lambda trial: trial.again(2),
            lambda trial: trial.again(-1), lambda trial: trial.again(BA), lambda trial: trial.hear(2),
            lambda trial: trial.hear(-1), lambda trial: trial.letter_text(2), lambda trial: trial.letter_text(-1),
        ]:
            self.refused(trial, call)
        trial.sleep(1)
        self.refused(trial, lambda trial: trial.hear(letter))
        trial.wake(1)
        trial.hear(letter)
        self.refused(trial, lambda trial: trial.hear(letter))

    def test_a_link_does_not_break_if_the_letter_is_not_heard(self):
        trial = Trial(trial_frame())
        _, letter = trial.send(AB, 0)
        trial.anew(1, [0, 0])
        trial.pass_time(900)
        self.refused(trial, lambda trial: trial.hear(letter))
        self.assertEqual(trial.broken, [])

    def test_promise(self):
        trial = Trial(trial_frame())
        trial.send(AB, 0)
        _, told = trial.tell(AB)
        trial.hear(told)
        for link, number in [(AB, 4), (AB, 0), (2, 1), (-1, 1), (BA, 9)]:
            self.refused(trial, lambda trial: trial.promise(link, number))
        self.assertEqual(trial.promise(AB, 3), (1, 2))
        self.refused(trial, lambda trial: trial.hear(0))
        self.assertEqual(trial.promise(BA, 1), (0, 3))
        trial.sleep(1)
        self.refused(trial, lambda trial: trial.promise(AB, 3))


class PinsTest(TrialCase):
    def test_pin_and_unpin(self):
        trial = Trial(trial_frame())
        trial.note(0)
        trial.pin(0, (0, 1))
        trial.pin(0, BEGINNING)
        trial.note(0)
        self.assertEqual((trial.watch_of(0).pins, trial.watch_of(1).pins), ([(0, 1)], []))
        self.assertEqual(trial.watch_of(0).between((0, 1), (0, 2)), [(0, 12)])
        trial.unpin(0, (0, 1))
        self.assertEqual(trial.watch_of(0).pins, [])

    def test_not_possible(self):
        trial = Trial(trial_frame())
        for device, event in [(0, (0, 1)), (0, (2, 0)), (2, (0, 0)), (-1, (0, 0))]:
            self.refused(trial, lambda trial: trial.pin(device, event))
            self.refused(trial, lambda trial: trial.unpin(device, event))
        self.refused(trial, lambda trial: trial.unpin(0, (0, 0)))
        for _ in range(4):
            trial.pin(0, trial.note(0))
        trial.note(0)
        self.refused(trial, lambda trial: trial.pin(0, (0, 5)))

    def test_the_very_watch(self):
        trial = Trial(trial_frame())
        watch = trial.watch_of(0)
        trial.note(0)
        self.assertIs(trial.watch_of(0), watch)
        self.assertEqual(watch.known_counts, [2, 1])


if __name__ == "__main__":
    unittest.main()
