"""Points [19] and [24]: the bounds of clocks are met if and only if the clocks can have run so."""

import random
import unittest

from tests.worlds import lived_world, small_frame
from whensure.bounds.bounds import event_bounds, first_hands, view_bounds
from whensure.bounds.points import START
from whensure.frame.frame import Frame
from whensure.tables.table import Table


def unmet(bounds, instants):
    """Return the bounds that are not met by these instants."""
    return [bound for bound in bounds if instants[bound[1]] - instants[bound[0]] > bound[2]]


def sort_of(frame, part):
    """Return what a part is."""
    if part == -1:
        return "order"
    if part < len(frame.clocks):
        return "clock"
    return "link" if part < len(frame.clocks) + len(frame.links) else "source"


class TrueInstantsTest(unittest.TestCase):
    def test_all_bounds_are_met(self):
        met = {"order": 0, "clock": 0, "link": 0, "source": 0}
        for seed in range(300):
            chance = random.Random(seed)
            frame = small_frame(chance, devices=chance.randint(1, 4), links=2, sources=2)
            world = lived_world(chance, frame, 60)
            bounds = view_bounds(frame, world.view)
            self.assertEqual(unmet(bounds, world.instants), [], seed)
            for bound in bounds:
                met[sort_of(frame, bound[3])] += 1
        self.assertGreater(min(met.values()), 500, met)

    def test_a_broken_part_breaks_only_its_own_bounds(self):
        broken = 0
        for seed in range(150):
            chance = random.Random(seed)
            frame = small_frame(chance, links=2, sources=2)
            part = chance.randrange(frame.part_count)
            world = lived_world(chance, frame, 60, (part,))
            wrong = unmet(view_bounds(frame, world.view), world.instants)
            self.assertLessEqual({bound[3] for bound in wrong}, {part}, seed)
            broken += len(wrong) > 0
        self.assertGreater(broken, 60)


LOW_HIGH = ((2, 3), (1, 1), (1, 4), (3, 3))
CLOCK_FRAME = Frame(["a"], [("c", 0, False, tuple(("k", *pair) for pair in LOW_HIGH))], [], [], 0)
ON_FRAME = Frame(["a"], [(*CLOCK_FRAME.clocks[0][:2], True, CLOCK_FRAME.clocks[0][3])], [], [], 0)


def came_after(came, gained, previous, now, kind):
    """Return when the clock can have come to what it shows now, unit by unit; came is when to what it showed before."""
    low, high = LOW_HIGH[kind]
    if gained < 0:
        return set()
    for unit in range(gained):
        came = {at + length for at in came for length in range(low, high + 1)}
        if unit == 0:
            came = {at for at in came if at >= previous}
    return {at for at in came if at <= now <= at + high}


def can_have_run(frame, events, instants):
    """Tell if a clock can have run so, by trying all instants at which it can have come to each number."""
    came, number, kind = None, 0, 0
    for at, (asleep, shown, after, deed, _) in enumerate(events):
        now = instants[at + 1]
        stopped = deed[0] == "anew" or (asleep and not frame.clocks[0][2])
        if came is None or stopped:
            came = set(range(now - LOW_HIGH[kind][1], now + 1))
        else:
            came = came_after(came, shown[0] - number, instants[at], now, kind)
        if not came:
            return False
        number = after[0]
        if deed[0] in ("kind", "anew"):
            kind = deed[2] if deed[0] == "kind" else deed[1][0]
        if deed[0] in ("kind", "anew") or after != shown:
            came = {now}
    return True


def bounds_allow(frame, events, instants):
    """Tell if there are instants for the ticks that meet all bounds of the clock with these instants of the events."""
    table = Table()
    table.add_point(START)
    table.add_point((0, 0, -1))
    hands = first_hands(frame, 0)
    for number, event in enumerate(events, start=1):
        table.add_point((0, number, -1))
        table.add_point((0, number, 0))
        table.put_bound(START, (0, number, -1), instants[number])
        table.put_bound((0, number, -1), START, -instants[number])
        bounds, hands = event_bounds(frame, (0, number, event), hands, None)
        for first, second, amount, part in bounds:
            if part == 0 and not table.put_bound(first, second, amount):
                return False
    return True


def random_story(chance):
    """Return events of a clock that are now and then such as it can have shown, and instants from the birth on."""
    instants, events, number = [0], [], 0
    for _ in range(chance.randint(2, 5)):
        passed = chance.randint(0, 7)
        instants.append(instants[-1] + passed)
        number += chance.choice([0, 0, 1, passed // 3, passed // 2, passed // 2, passed, -1, chance.randint(0, 4)])
        deed = chance.choice([("note",)] * 6 + [("kind", 0, chance.randrange(4)), ("anew", (chance.randrange(4),))])
        after = number + chance.choice([0] * 6 + [1, -2])
        events.append((chance.random() < 0.15, (number,), (after,), deed, (len(events) + 2,)))
        number = after
    return events, instants


class IfAndOnlyIfTest(unittest.TestCase):
    def test_the_bounds_are_met_if_and_only_if_the_clock_can_have_run_so(self):
        answers = []
        for seed in range(4000):
            chance = random.Random(seed)
            frame = chance.choice([CLOCK_FRAME, ON_FRAME])
            events, instants = random_story(chance)
            answers.append(can_have_run(frame, events, instants))
            self.assertEqual(bounds_allow(frame, events, instants), answers[-1], (events, instants))
        self.assertGreater(answers.count(True), 800)
        self.assertGreater(answers.count(False), 800)


if __name__ == "__main__":
    unittest.main()
