"""Points [47], [52] and [53] over drawn runs of watches."""

import random
import unittest

from tests.runs import LivelyRun, Run, answers_by_view, answers_of, lively_frame
from tests.worlds import small_frame
from whensure.choices.stretches import holds_number
from whensure.choices.told import view_between
from whensure.errors import CannotBeHeard, InvalidRecord
from whensure.frame.frame import BEGINNING
from whensure.knowing.deeds import is_possible
from whensure.story.texts import read_letter
from whensure.watch.watch import Watch


def drawn_run(seed, devices=None, most_broken=None):
    """Return a source of chance and a run of two or three devices, with some parts broken."""
    chance = random.Random(seed)
    faults = chance.randint(0, 2)
    frame = small_frame(
        chance, faults, devices=devices or chance.randint(2, 3), clocks=chance.randint(1, 3),
        links=1 if devices == 2 else chance.randint(1, 2), sources=chance.randint(1, 2),
    )
    most = faults if most_broken is None else most_broken
    broken = tuple(chance.sample(range(frame.part_count), chance.randint(0, most)))
    return chance, Run(frame, chance, broken)


class ExactlyTest(unittest.TestCase):
    def test_between_is_exactly_what_the_view_of_all_known_events_says(self):
        compared, narrow = 0, 0
        for seed in range(220):
            chance, run = drawn_run(seed)
            for step in range(60):
                run.step()
                if step % 7 == 6:
                    device = chance.randrange(len(run.watches))
                    watch = run.watches[device]
                    answers = answers_of(watch)
                    self.assertEqual(answers, answers_by_view(run.frame, run.view_of(device), watch.live), (seed, step))
                    compared += len(answers)
                    narrow += sum(stretches not in ([(0, 0)], [(None, None)]) for stretches in answers.values())
                    self.check_truth(run, answers, seed)
        self.assertGreater(compared, 20000)
        self.assertGreater(narrow, 8000)

    def check_truth(self, run, answers, seed):
        """Check that the true differences are among those that are returned."""
        for pair, stretches in answers.items():
            self.assertTrue(holds_number(stretches, run.difference(*pair)), (seed, pair))

    def test_also_if_more_parts_are_broken_than_can_be(self):
        without = 0
        for seed in range(100):
            _, run = drawn_run(seed, most_broken=3)
            for _ in range(50):
                run.step()
            for device, watch in enumerate(run.watches):
                answers = answers_of(watch)
                self.assertEqual(answers, answers_by_view(run.frame, run.view_of(device), watch.live), seed)
                self.assertEqual(watch.choices == [], answers[BEGINNING, BEGINNING] == [])
                without += watch.choices == []
        self.assertGreater(without, 10)

    def test_by_view_between_itself(self):
        for seed in range(30):
            chance, run = drawn_run(seed)
            for _ in range(30):
                run.step()
            for device, watch in enumerate(run.watches):
                first, second = chance.choice(watch.live), chance.choice(watch.live)
                expected = view_between(run.frame, run.view_of(device), first, second)
                self.assertEqual(watch.between(first, second), expected)


class CheckedRun(Run):
    """A run that checks of each letter whether it can be heard, and in which order words are heard."""

    def __init__(self, test, frame, chance, broken):
        super().__init__(frame, chance, broken)
        self.test = test
        # For each link and sort the number of the last word that was heard.
        self.heard = {}
        self.told = {}
        self.results = {True: 0, False: 0}

    def call_for_words(self, watch, shown, deed):
        """Make the event of a word, and check what is said of words."""
        if deed[0] != "hear":
            event = super().call_for_words(watch, shown, deed)
            if deed[0] == "tell":
                self.told[deed[1]] = event[1]
            return event
        link, number, kind, text = deed[1]
        under_way = self.is_under_way(watch, text)
        self.results[under_way] += 1
        try:
            event = watch.hear(shown, text)
        except CannotBeHeard:
            self.test.assertFalse(under_way)
            raise
        self.test.assertTrue(under_way)
        self.test.assertGreater(number, self.heard.get((link, kind is None), 0))
        self.heard[link, kind is None] = number
        return event

    def is_under_way(self, watch, text):
        """Tell if the word of a letter is under way, by what is known after the letter's records are put."""
        _, _, link, number, records = read_letter(text)
        known = watch.known.fork()
        for record in records:
            if record[1] == known.counts[record[0]]:
                known.put_record(record)
            self.test.assertLess(record[1], known.counts[record[0]])
        return number in [word[0] for word in known.words(link)]


class WordsTest(unittest.TestCase):
    def runs(self, seeds, devices=None):
        """Give runs that check words, and their sources of chance."""
        for seed in range(seeds):
            chance, run = drawn_run(seed, devices)
            yield chance, CheckedRun(self, run.frame, chance, run.broken)

    def test_letters_can_be_heard_in_order_once_if_their_words_are_under_way(self):
        results = {True: 0, False: 0}
        for _, run in self.runs(150):
            for _ in range(80):
                run.step()
            results = {under_way: many + run.results[under_way] for under_way, many in results.items()}
        self.assertGreater(min(results.values()), 300, results)

    def test_at_most_one_sent_word_and_two_told_words(self):
        most = {True: 0, False: 0}
        for _, run in self.runs(100):
            for _ in range(80):
                run.step()
                for watch in run.watches:
                    for link in range(len(run.frame.links)):
                        words = watch.known.words(link)
                        for told in (False, True):
                            most[told] = max(most[told], sum((word[1] is None) == told for word in words))
        self.assertEqual(most, {False: 1, True: 2})

    def test_one_of_two_devices_can_tell_one_more(self):
        quiet = 0
        for _, run in self.runs(150, 2):
            for _ in range(80):
                run.step()
                if all(run.heard.get((link, True), 0) >= run.told.get(link, 0) for link in (0, 1)):
                    self.assertTrue(any(
                        is_possible(run.watches[sender].known, sender, ("tell", link))
                        for link, (_, sender, _, _) in enumerate(run.frame.links)
                    ))
                    quiet += run.told != {}
        self.assertGreater(quiet, 1000)

    def test_two_devices_go_on_telling_for_ever(self):
        for seed in range(30):
            chance, run = drawn_run(seed, 2)
            told = 0
            for _ in range(300):
                link = chance.randrange(2)
                sender, receiver = run.frame.links[link][1:3]
                shown = [list(run.shown(device)) for device in (0, 1)]
                if is_possible(run.watches[sender].known, sender, ("tell", link)):
                    run.watches[sender].tell(shown[sender], link)
                    told += 1
                text = run.watches[sender].again(link)
                if text is not None and chance.random() < 0.5:
                    try:
                        run.watches[receiver].hear(shown[receiver], text)
                    except CannotBeHeard:
                        run.refused += 1
            self.assertGreater(told, 40)


class TheSameEventsTest(unittest.TestCase):
    def test_watches_that_know_the_same_return_the_same_for_events_that_both_keep(self):
        compared = 0
        for seed in range(80):
            chance, run = drawn_run(seed, 3)
            for _ in range(50):
                run.step()
            view = run.view_of(chance.randrange(3))
            watches = [self.watch_with(run.frame, owner, view, chance) for owner in range(3)]
            for watch in watches[1:]:
                self.assertEqual(watch.known_counts, watches[0].known_counts)
                both = [event for event in watches[0].live if event in watch.live]
                answers, others = answers_of(watches[0]), answers_of(watch)
                for first in both:
                    for second in both:
                        self.assertEqual(answers[first, second], others[first, second], seed)
                        compared += 1
        self.assertGreater(compared, 3000)

    def watch_with(self, frame, owner, view, chance):
        """Return a watch that knows a view, learned in some order, with some events pinned on the way."""
        watch = Watch(frame, owner)
        while watch.known_counts != [len(events) for events in view]:
            device = chance.randrange(len(view))
            number = watch.known_counts[device]
            if number < len(view[device]):
                try:
                    watch._put((device, number, view[device][number]))
                except InvalidRecord:
                    continue
                if len(watch.pins) < 2 and chance.random() < 0.1:
                    watch.pin((device, number))
        return watch


class CommitsTest(unittest.TestCase):
    def test_stamps_reports_fronts_and_logs(self):
        counts = {"commits": 0, "done": 0, "fronts": 0, "logged": 0}
        for seed in range(120):
            chance = random.Random(seed)
            frame = lively_frame(chance)
            broken = tuple(chance.sample(range(frame.part_count), chance.randint(0, frame.faults)))
            self.live_and_check(LivelyRun(frame, chance, broken), counts)
        self.assertGreater(min(counts.values()), 100, counts)

    def live_and_check(self, run, counts):
        """Let a run go on, and check what is said of commits."""
        reported, fronts, longest, commits = [], [], [], []
        for _ in range(100):
            run.step()
            known = {(event, stamp): True for event, stamp in commits}
            for device, events in enumerate(run.view):
                for number, event in enumerate(events):
                    pair = ((device, number), event[3][1] if event[3][0] == "commit" else None)
                    if pair[1] is not None and pair not in known:
                        commits.append(pair)
                        self.check_commit(run, pair, reported, fronts)
            counts["commits"] += len(commits) - len(known)
            device = run.chance.randrange(len(run.watches))
            if not run.asleep[device] and not run.slept[device]:
                self.ask(run, device, commits, reported, counts)
            watch = run.watches[device]
            front = watch.front()
            if front is not None:
                fronts.append(front)
                counts["fronts"] += 1
                for (owner, number), stamp in commits:
                    if number >= watch.known_counts[owner]:
                        self.assertGreaterEqual(stamp, front)
            log = watch.log()
            counts["logged"] += len(log)
            both = min(len(log), len(longest))
            self.assertEqual(log[:both], longest[:both])
            longest = max(longest, log, key=len)

    def check_commit(self, run, commit, reported, fronts):
        """Check the stamp of a new commit."""
        event, stamp = commit
        self.assertGreaterEqual(stamp, run.difference(BEGINNING, event))
        for other in reported + fronts:
            self.assertGreaterEqual(stamp, other)

    def ask(self, run, device, commits, reported, counts):
        """Ask a watch whether the commits that it knows are done."""
        watch = run.watches[device]
        for (owner, number), stamp in commits:
            if number < watch.known_counts[owner] and watch.done(list(run.shown(device)), (owner, number)):
                self.assertGreaterEqual(run.now, stamp)
                reported.append(stamp)
                counts["done"] += 1


class LeasesTest(unittest.TestCase):
    def test_a_use_and_a_new_lending_never_meet(self):
        counts = {"use": 0, "give": 0, "neither": 0}
        for seed in range(120):
            chance = random.Random(seed)
            frame = lively_frame(chance)
            broken = tuple(chance.sample(range(frame.part_count), chance.randint(0, frame.faults)))
            run = LivelyRun(frame, chance, broken)
            for _ in range(60):
                run.step()
                device = chance.randrange(len(run.watches))
                if not run.asleep[device] and not run.slept[device]:
                    self.ask(run, device, counts)
        self.assertGreater(min(counts.values()), 300, counts)

    def ask(self, run, device, counts):
        """Ask a watch about a lease, and check what it returns by the true time."""
        watch, shown = run.watches[device], list(run.shown(device))
        event, time = run.chance.choice(watch.live), run.chance.randint(-5, 40)
        passed = run.now - run.difference(BEGINNING, event)
        use, give = watch.may_use(shown, event, time), watch.may_give(shown, event, time)
        if use:
            self.assertLessEqual(passed, time)
        if give:
            self.assertGreater(passed, time)
        counts["use" if use else "give" if give else "neither"] += 1


if __name__ == "__main__":
    unittest.main()
