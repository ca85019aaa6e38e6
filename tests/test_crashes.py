"""Point [69]: devices crash, and go on with the last session that they saved."""

import random
import unittest

from tests.runs import LivelyRun, answers_by_view, answers_of, lively_frame
from tests.worlds import small_frame
from whensure.choices.stretches import holds_number
from whensure.frame.frame import BEGINNING
from whensure.watch.sessions import load_watch, save_watch


class CrashRun(LivelyRun):
    """A run in which devices save their watches after each letter, and crash now and then."""

    def __init__(self, frame, chance, broken=()):
        super().__init__(frame, chance, broken)
        self.sessions = [save_watch(watch) for watch in self.watches]
        self.saved_counts = [1 for _ in self.watches]
        # Whether since then no clock was set, none was given a kind, and no sent word was heard.
        self.sure = [True for _ in self.watches]
        self.crashes = {"sure": 0, "owing": 0, "lost": 0}

    def save(self, device):
        """Save the watch of a device."""
        self.sessions[device] = save_watch(self.watches[device])
        self.saved_counts[device] = self.watches[device].known_counts[device]
        self.sure[device] = True

    def deeds(self, device):
        """Return the deeds that the device can try now."""
        if self.watches[device].owes:
            clocks = self.frame.clocks_of(device)
            return [("anew", tuple(self.chance.randrange(len(self.frame.clocks[clock][3])) for clock in clocks))]
        return super().deeds(device)

    def call_for_words(self, watch, shown, deed):
        """Make the event of a word; the watch is saved before a letter is handed out."""
        event = super().call_for_words(watch, shown, deed)
        if deed[0] != "hear":
            self.save(watch.device)
        elif deed[1][2] is not None:
            self.sure[watch.device] = False
        return event

    def call(self, watch, shown, deed):
        """Make the event of a deed, and remember whether one may still be sure of the clocks."""
        event = super().call(watch, shown, deed)
        if watch.last_made[3][0] in ("kind", "anew") or watch.last_made[1] != watch.last_made[2]:
            self.sure[watch.device] = False
        return event

    def make(self, device, deed):
        """Let a device do a deed; to give a letter again is followed by saving, too."""
        super().make(device, deed)
        if deed[0] == "again":
            self.save(device)

    def crash(self, device):
        """Let a device lose its watch, load the last session, and be asleep for a while."""
        before = self.watches[device].known_counts
        sure = self.sure[device] and self.chance.random() < 0.8
        watch = load_watch(self.sessions[device], sure)
        self.watches[device] = watch
        self.crashes["owing" if watch.owes else "sure"] += 1
        self.crashes["lost"] += sum(before) - sum(watch.known_counts)
        self.view[device] = self.view[device][:watch.known_counts[device]]
        self.asleep[device] = self.slept[device] = True
        # What is gone since it was saved may have been anything; only what is sure now holds on.
        self.sure[device] = self.sure[device] and not watch.owes


def crash_runs(seeds, make_frame):
    """Give sources of chance and runs with crashes."""
    for seed in range(seeds):
        chance = random.Random(seed)
        frame = make_frame(chance)
        broken = tuple(chance.sample(range(frame.part_count), chance.randint(0, frame.faults)))
        yield chance, CrashRun(frame, chance, broken)


def two_or_three(chance):
    """Return a frame with two or three devices."""
    return small_frame(
        chance, chance.randint(0, 2), devices=chance.randint(2, 3), clocks=2, links=chance.randint(1, 2), sources=2,
    )


class CrashTest(unittest.TestCase):
    def test_between_is_exactly_what_the_view_says_and_true(self):
        counts = {"compared": 0, "sure": 0, "owing": 0, "lost": 0}
        for chance, run in crash_runs(150, two_or_three):
            for step in range(80):
                run.step()
                if chance.random() < 0.06:
                    run.crash(chance.randrange(len(run.watches)))
                if step % 10 == 9:
                    device = chance.randrange(len(run.watches))
                    watch = run.watches[device]
                    answers = answers_of(watch)
                    self.assertEqual(answers, answers_by_view(run.frame, run.view_of(device), watch.live))
                    counts["compared"] += len(answers)
                    for pair, stretches in answers.items():
                        self.assertTrue(holds_number(stretches, run.difference(*pair)))
            for name, many in run.crashes.items():
                counts[name] += many
        self.assertGreater(min(counts.values()), 100, counts)

    def test_commits_and_leases(self):
        counts = {"commits": 0, "done": 0, "fronts": 0, "use": 0, "give": 0}
        for chance, run in crash_runs(120, lively_frame):
            self.live(chance, run, counts)
        self.assertGreater(min(counts.values()), 50, counts)

    def live(self, chance, run, counts):
        """Let a run with crashes go on, and check what is said of commits and leases."""
        floor, commits = [], {}
        for _ in range(90):
            run.step()
            if chance.random() < 0.04:
                run.crash(chance.randrange(len(run.watches)))
            for event, stamp in commits_in(run.view):
                if commits.get(event) != stamp:
                    commits[event] = stamp
                    counts["commits"] += 1
                    self.assertGreaterEqual(stamp, max([run.difference(BEGINNING, event), *floor]))
            device = chance.randrange(len(run.watches))
            watch = run.watches[device]
            if watch.front() is not None:
                floor.append(watch.front())
                counts["fronts"] += 1
            for event, stamp in commits_in(run.view):
                if event[1] >= watch.known_counts[event[0]] and watch.front() is not None:
                    self.assertGreaterEqual(stamp, watch.front())
            if not run.asleep[device] and not run.slept[device] and not watch.owes:
                floor.extend(self.done_now(run, device, counts))
                self.ask_for_lease(run, device, counts)

    def done_now(self, run, device, counts):
        """Return the stamps of the commits that a watch reports as done."""
        watch = run.watches[device]
        done = [stamp for stamp, *event in watch.known.commits if watch.done(list(run.shown(device)), tuple(event))]
        for stamp in done:
            self.assertGreaterEqual(run.now, stamp)
        counts["done"] += len(done)
        return done

    def ask_for_lease(self, run, device, counts):
        """Ask a watch about a lease, and check what it returns by the true time."""
        watch, shown = run.watches[device], list(run.shown(device))
        event, time = run.chance.choice(watch.live), run.chance.randint(-5, 40)
        passed = run.now - run.difference(BEGINNING, event)
        if watch.may_use(shown, event, time):
            self.assertLessEqual(passed, time)
            counts["use"] += 1
        if watch.may_give(shown, event, time):
            self.assertGreater(passed, time)
            counts["give"] += 1

    def test_logs(self):
        logged = 0
        for chance, run in crash_runs(80, lively_frame):
            longest = []
            for _ in range(120):
                run.step()
                if chance.random() < 0.03:
                    run.crash(chance.randrange(len(run.watches)))
                for device, watch in enumerate(run.watches):
                    log = watch.log()
                    # Only a log without commits that a crash could still take away.
                    if all(event[0] != device or event[1] < run.saved_counts[device] for event, _ in log):
                        both = min(len(log), len(longest))
                        self.assertEqual(log[:both], longest[:both])
                        longest = max(longest, log, key=len)
            logged += len(longest)
        self.assertGreater(logged, 40)

    def test_it_loses_only_what_nobody_else_knows(self):
        for chance, run in crash_runs(60, lively_frame):
            for _ in range(60):
                run.step()
                if chance.random() < 0.05:
                    device = chance.randrange(len(run.watches))
                    run.crash(device)
                    known = run.watches[device].known_counts[device]
                    for other, watch in enumerate(run.watches):
                        self.assertLessEqual(watch.known_counts[device], known, other)


def commits_in(view):
    """Return the pairs of the commits in a view and their stamps."""
    return [
        ((device, number), event[3][1])
        for device, events in enumerate(view) for number, event in enumerate(events) if event[3][0] == "commit"
    ]


if __name__ == "__main__":
    unittest.main()
