"""Points [77], [47], [57] and [64] over drawn trials of two and three devices."""

import random
import unittest

from tests.runs import answers_by_view, answers_of
from tests.worlds import small_frame
from whensure.choices.stretches import holds_number
from whensure.choices.told import view_between
from whensure.courses.courses import find_course
from whensure.errors import NotPossible
from whensure.frame.frame import BEGINNING
from whensure.papers.judge import judge_paper
from whensure.papers.making import make_paper
from whensure.trial.trial import Trial


class DrawnTrial:
    """A trial in which drawn calls are made."""

    def __init__(self, seed):
        self.chance = random.Random(seed)
        frame = small_frame(
            self.chance, self.chance.randint(0, 2), devices=self.chance.randint(2, 3), clocks=self.chance.randint(1, 3),
            links=self.chance.randint(1, 2), sources=self.chance.randint(1, 2),
        )
        self.trial = Trial(frame)
        # Whether calls that break parts may be drawn.
        self.can_break = self.chance.random() < 0.7
        self.refused = 0
        self.made = {}

    def step(self):
        """Let some time pass, and make a call."""
        self.trial.pass_time(self.chance.choice([0, 0, 1, 2, 3, 5]))
        name = self.chance.choice([
            "note", "mark", "mark", "send", "send", "tell", "tell", "hear", "hear", "hear", "hear", "commit",
            "set_pace", "sleep", "wake", "wake", "set_clock", "tell_kind", "anew", "promise", "again", "pin", "unpin",
            "jump",
        ])
        if name in ("jump", "anew", "sleep") and self.chance.random() < 0.7:
            return
        try:
            self.call(name)
        except NotPossible:
            self.refused += 1
        else:
            self.made[name] = self.made.get(name, 0) + 1

    def call(self, name):
        """Make a call of this name with drawn arguments."""
        trial, chance, frame = self.trial, self.chance, self.trial.frame
        device, clock = chance.randrange(len(frame.devices)), chance.randrange(len(frame.clocks))
        link, source = chance.randrange(len(frame.links)), chance.randrange(len(frame.sources))
        kind = chance.randrange(2)
        if name in ("note", "wake", "sleep", "commit"):
            getattr(trial, name)(device)
        elif name == "mark":
            trial.mark(source, kind, trial.now + self.deviation(chance.choice([0, 0, 0, 1, -1])))
        elif name in ("pin", "unpin"):
            getattr(trial, name)(device, chance.choice(trial.watch_of(device).live))
        elif name == "send":
            trial.send(link, kind)
        elif name in ("tell", "again"):
            getattr(trial, name)(link)
        elif name == "promise":
            trial.promise(link, chance.randrange(5))
        elif name == "set_clock":
            trial.set_clock(clock, trial.shows(clock) + chance.randint(-3, 3))
        elif name == "tell_kind":
            trial.tell_kind(clock, kind)
        elif name == "anew":
            trial.anew(device, [0 for _ in frame.clocks_of(device)])
        elif name == "jump" and self.can_break:
            trial.jump(clock, trial.shows(clock) + chance.randint(-9, 9))
        elif name == "set_pace":
            _, low, high = frame.clocks[clock][3][0]
            trial.set_pace(clock, max(1, chance.randint(low, high) + self.deviation(chance.choice([0, 0, 0, 9, -9]))))
        elif name == "hear" and trial.letter_count > 0:
            self.hear(chance.randrange(max(0, trial.letter_count - 6), trial.letter_count))

    def hear(self, letter):
        """Let a letter be heard, if that does not break a link, or something may break."""
        _, link, number, kind = self.trial.letters[letter]
        _, sender, _, kinds = self.trial.frame.links[link]
        took = self.trial.now - self.trial.time_of((sender, number))
        if kind is None or self.can_break and self.chance.random() < 0.1:
            self.trial.hear(letter)
        elif took >= kinds[kind][1] and (kinds[kind][2] is None or took <= kinds[kind][2]):
            self.trial.hear(letter)

    def deviation(self, amount):
        """Return an amount by which rules are not kept, if that may be."""
        return amount * self.chance.randint(1, 4) if self.can_break and self.chance.random() < 0.1 else 0


class TrueDifferencesTest(unittest.TestCase):
    def test_they_are_in_what_is_returned(self):
        counts = {"told": 0, "broken": 0, "beyond": 0}
        for seed in range(250):
            drawn = DrawnTrial(seed)
            trial = drawn.trial
            for step in range(80):
                drawn.step()
                if step % 8 == 7 and len(trial.broken) <= trial.frame.faults:
                    watch = trial.watch_of(drawn.chance.randrange(len(trial.frame.devices)))
                    for (first, second), stretches in answers_of(watch).items():
                        difference = trial.time_of(second) - trial.time_of(first)
                        self.assertTrue(holds_number(stretches, difference), (seed, step, first, second))
                        counts["told"] += stretches not in ([(0, 0)], [(None, None)])
                        counts["broken"] += trial.broken != []
            counts["beyond"] += len(trial.broken) > trial.frame.faults
        self.assertGreater(counts["told"], 8000, counts)
        self.assertGreater(counts["broken"], 3000, counts)
        self.assertGreater(counts["beyond"], 20, counts)

    def test_a_choice_with_all_parts_that_broke_is_possible(self):
        for seed in range(150):
            drawn = DrawnTrial(seed)
            for _ in range(60):
                drawn.step()
            trial = drawn.trial
            for device in range(len(trial.frame.devices)):
                # The true times meet all that such a choice leaves.
                right = [choice for choice in trial.watch_of(device).choices if set(trial.broken) <= set(choice)]
                if len(trial.broken) <= trial.frame.faults:
                    self.assertTrue(right, seed)

    def test_each_call_is_made(self):
        made = {}
        for seed in range(100):
            drawn = DrawnTrial(seed)
            for _ in range(80):
                drawn.step()
            for name, many in drawn.made.items():
                made[name] = made.get(name, 0) + many
        self.assertEqual(len(made), 17)
        self.assertGreater(min(made.values()), 10, made)


class WholeProgramTest(unittest.TestCase):
    def test_watch_view_course_and_paper_agree(self):
        agreed = 0
        for seed in range(60):
            drawn = DrawnTrial(seed)
            for _ in range(35):
                drawn.step()
            trial, chance = drawn.trial, drawn.chance
            device = chance.randrange(len(trial.frame.devices))
            watch, view = trial.watch_of(device), trial.view_of(device)
            self.assertEqual([len(events) for events in view], watch.known_counts)
            self.assertEqual(answers_of(watch), answers_by_view(trial.frame, view, watch.live))
            first, second = chance.choice(watch.live), chance.choice([BEGINNING, *watch.live])
            stretches = watch.between(first, second)
            self.assertEqual(stretches, view_between(trial.frame, view, first, second))
            text = make_paper(trial.frame, view, first, second)
            self.assertEqual(judge_paper(trial.frame, view, first, second, text), stretches)
            for number in [trial.time_of(second) - trial.time_of(first), chance.randint(-9, 9)]:
                course = find_course(trial.frame, view, first, second, number)
                self.assertEqual(course is not None, holds_number(stretches, number))
                agreed += course is not None
        self.assertGreater(agreed, 40)


if __name__ == "__main__":
    unittest.main()
