"""Runs: watches of all devices of a frame, whose clocks run and words travel on a true time that is known."""

from tests.worlds import World
from whensure.bounds.bounds import view_bounds
from whensure.bounds.points import event_point
from whensure.choices.choices import all_choices, possible_tables
from whensure.choices.stretches import join_stretches, stretch_of
from whensure.errors import CannotBeHeard, InvalidPromise, NoGreatestTime, TooManyPins, TooManyUnderWay
from whensure.frame.frame import Frame
from whensure.watch.watch import Watch


class Run(World):
    """A world in which the devices have watches, and letters can be lost, doubled, delayed and overtaken."""

    def __init__(self, frame, chance, broken=()):
        super().__init__(frame, chance, broken)
        self.watches = [Watch(frame, device) for device in range(len(frame.devices))]
        # Tuples (link, number, kind, text); kind is None for a word that was told.
        self.letters = []
        self.refused = 0

    def deeds(self, device):
        """Return the deeds that the device can try now, some of them several times to have them oftener."""
        frame = self.frame
        clocks = frame.clocks_of(device)
        kinds = tuple(self.chance.randrange(len(frame.clocks[clock][3])) for clock in clocks)
        found = [("note",)] * 3 + [("commit",)] * 2 + [("anew", kinds), ("pin",), ("unpin",)]
        for place, clock in enumerate(clocks):
            found.extend([("kind", clock, kinds[place]), ("set", clock)])
        for number, (_, at, source_kinds) in enumerate(frame.sources):
            if at == device:
                found.extend([("mark", number, self.chance.randrange(len(source_kinds)))] * 3)
        for number, (_, sender, receiver, link_kinds) in enumerate(frame.links):
            if sender == device:
                found.extend([("send", number, self.chance.randrange(len(link_kinds)))] * 5)
                found.extend([("tell", number)] * 5 + [("again", number)])
            if receiver == device:
                found.append(("promise", number, self.chance.randint(0, self.watches[device].known_counts[sender] + 1)))
        found.extend([("hear", letter) for letter in self.letters if self.can_arrive(letter, device)] * 12)
        return found

    def can_arrive(self, letter, device):
        """Tell if a letter may be heard by the device now, as far as its link keeps its rules."""
        return self.can_be_heard(letter[:3], device)

    def make(self, device, deed):
        """Let a device do a deed, as far as its watch does not refuse it."""
        watch = self.watches[device]
        if deed[0] == "pin":
            self.pin(watch)
        elif deed[0] == "unpin":
            if watch.pins:
                watch.unpin(self.chance.choice(watch.pins))
        elif deed[0] == "again":
            text = watch.again(deed[1])
            if text is not None:
                number = int(text.split("\n")[1].split(" ")[3])
                self.letters.append((deed[1], number, None, text))
        else:
            self.make_event(device, deed)

    def pin(self, watch):
        """Let a watch pin an event that it keeps."""
        try:
            watch.pin(self.chance.choice(watch.live))
        except TooManyPins:
            self.refused += 1

    def make_event(self, device, deed):
        """Let a device make an event, as far as its watch does not refuse it."""
        watch = self.watches[device]
        self.break_rules(device, deed)
        clocks = self.frame.clocks_of(device)
        came = {clock: self.now - self.clocks[clock].phase for clock in clocks}
        try:
            event = self.call(watch, list(self.shown(device)), deed)
        except (CannotBeHeard, InvalidPromise, NoGreatestTime, TooManyUnderWay):
            self.refused += 1
            return
        self.instants[(*event, -1)] = self.now
        for clock in clocks:
            self.instants[(*event, clock)] = came[clock]
        self.view[device].append(watch.last_made)
        self.slept[device] = self.asleep[device] = False

    def call(self, watch, shown, deed):
        """Make the event of a deed by a watch, and return it."""
        name = deed[0]
        if self.slept[watch.device] and name not in ("anew",):
            return watch.wake(shown)
        if name == "note":
            return watch.note(shown)
        if name == "commit":
            return watch.commit(shown)[0]
        if name == "anew":
            event = watch.anew(shown, deed[1])
            for place, clock in enumerate(self.frame.clocks_of(watch.device)):
                self.clocks[clock].begin(self.clocks[clock].number, deed[1][place])
            return event
        if name == "kind":
            event = watch.tell_kind(shown, deed[1], deed[2])
            self.clocks[deed[1]].begin(self.clocks[deed[1]].number, deed[2])
            return event
        if name == "set":
            value = self.clocks[deed[1]].number + self.chance.randint(-2, 2)
            event = watch.set_clock(shown, deed[1], value)
            self.clocks[deed[1]].begin(value, self.clocks[deed[1]].kind)
            return event
        if name == "mark":
            return watch.mark(shown, deed[1], deed[2], self.value_of(deed[1], deed[2]))
        if name == "promise":
            return watch.promise(shown, deed[1], deed[2])
        return self.call_for_words(watch, shown, deed)

    def call_for_words(self, watch, shown, deed):
        """Make the event of a word that is sent, told or heard, and return it."""
        if deed[0] == "hear":
            event = watch.hear(shown, deed[1][3])
            if self.chance.random() < 0.8 and deed[1] in self.letters:
                self.letters.remove(deed[1])
            return event
        if deed[0] == "send":
            event, text = watch.send(shown, deed[1], deed[2])
        else:
            event, text = watch.tell(shown, deed[1])
        if self.chance.random() < 0.9:
            self.letters.append((deed[1], event[1], deed[2] if deed[0] == "send" else None, text))
        return event

    def view_of(self, device):
        """Return the view of all events that a device knows."""
        counts = self.watches[device].known_counts
        return [list(events[:count]) for events, count in zip(self.view, counts)]

    def difference(self, first, second):
        """Return by how much the second event truly is later than the first one."""
        return self.instants[event_point(second)] - self.instants[event_point(first)]


def lively_frame(chance):
    """Return a frame of devices in a row that have a clock each, quick links, and sources at both ends."""
    many = chance.randint(2, 3)
    ways = [(0, 1), (1, 0), (1, 2), (2, 1)][:2 * many - 2]
    return Frame(
        [f"d{at}" for at in range(many)],
        [(f"c{at}", at, chance.random() < 0.5, (("k", 2, 3),)) for at in range(many)],
        [(f"l{at}", *way, (("k", 0, 4),)) for at, way in enumerate(ways)],
        [(f"s{at}", at, (("k", 1, 1),)) for at in (0, many - 1)],
        chance.randint(0, 1),
    )


class LivelyRun(Run):
    """A run with few deeds that make clocks less known."""

    sleepiness = 0.05

    def deeds(self, device):
        """Return the deeds that the device can try now."""
        found = super().deeds(device)
        rare = ("anew", "kind", "set", "pin", "unpin", "promise")
        return [deed for deed in found if deed[0] not in rare or self.chance.random() < 0.1]


def answers_of(watch):
    """Return a dict of what a watch returns for any two events that it keeps."""
    return {(first, second): watch.between(first, second) for first in watch.live for second in watch.live}


def answers_by_view(frame, view, events):
    """Return a dict of what all bounds of a view say of any two of the events."""
    points = [event_point(event) for event in events]
    tables = possible_tables(view_bounds(frame, view), all_choices(frame.part_count, frame.faults), points)
    return {
        (first, second): join_stretches(
            [stretch_of(table, event_point(first), event_point(second)) for _, table in tables]
        )
        for first in events for second in events
    }
