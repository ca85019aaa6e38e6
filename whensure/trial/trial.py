"""Trials: what the watches of all devices return, beside what is true."""

from whensure.errors import NotPossible, WhensureError
from whensure.frame.frame import BEGINNING
from whensure.frame.items import is_device, is_link
from whensure.story.events import first_view
from whensure.story.texts import read_letter
from whensure.trial.clocks import TrialClock
from whensure.watch.watch import Watch


class Trial:
    """All devices of a frame on a true time, which passes as it is told to."""

    def __init__(self, frame):
        self.frame = frame
        self.now = 0
        # The parts that broke their rules, in the order in which they did.
        self.broken = []
        self.clocks = [TrialClock(clock[3]) for clock in frame.clocks]
        self.asleep = [False for _ in frame.devices]
        self.watches = [Watch(frame, device) for device in range(len(frame.devices))]
        # All events of all devices, and the instant of each.
        self.story = first_view(frame)
        self.instants = {BEGINNING: 0}
        for device in range(len(frame.devices)):
            self.instants[(device, 0)] = 0
        # Tuples (text, link, number, kind); kind is None for a word that was told.
        self.letters = []

    @property
    def letter_count(self):
        """How many letters there are."""
        return len(self.letters)

    def pass_time(self, amount):
        """Let so many instants pass."""
        check(amount >= 0)
        self.now += amount
        for clock, (_, device, goes_on, _) in zip(self.clocks, self.frame.clocks):
            if goes_on or not self.asleep[device]:
                clock.run(amount)

    def set_pace(self, clock, pace):
        """Let a clock take pace instants for a unit from now on."""
        self._check_clock(clock)
        check(pace >= 1)
        if not self.clocks[clock].allows(pace):
            self._break(clock)
        self.clocks[clock].change_pace(pace)

    def jump(self, clock, number):
        """Let a clock show another number than it should."""
        self._check_clock(clock)
        self._break(clock)
        self.clocks[clock].show(number)

    def sleep(self, device):
        """Let a device fall asleep."""
        self._check_state(device, False)
        self.asleep[device] = True

    def wake(self, device):
        """Let a device that is asleep wake, and return the event."""
        event = self._make(device, True, lambda watch, shown: watch.wake(shown))
        self.asleep[device] = False
        return event

    def pin(self, device, event):
        """Let the watch of a device keep an event."""
        watch = self.watch_of(device)
        obey(lambda: watch.pin(event))

    def unpin(self, device, event):
        """Do not let the watch of a device keep an event any longer."""
        watch = self.watch_of(device)
        obey(lambda: watch.unpin(event))

    def note(self, device):
        """Make an event at which nothing else happens, and return it."""
        return self._make(device, False, lambda watch, shown: watch.note(shown))

    def set_clock(self, clock, value):
        """Set a clock, and return the event."""
        device = self._device_of(clock)
        event = self._make(device, False, lambda watch, shown: watch.set_clock(shown, clock, value))
        self.clocks[clock].show(value)
        return event

    def tell_kind(self, clock, kind):
        """Let a clock run by a kind from now on, and return the event."""
        device = self._device_of(clock)
        event = self._make(device, False, lambda watch, shown: watch.tell_kind(shown, clock, kind))
        self.clocks[clock].begin_unit(kind)
        return event

    def mark(self, source, kind, value):
        """Let a source say, by a kind, that true time is value, and return the event."""
        check(0 <= source < len(self.frame.sources))
        _, device, kinds = self.frame.sources[source]
        event = self._make(device, False, lambda watch, shown: watch.mark(shown, source, kind, value))
        _, early, late = kinds[kind]
        if not value - early <= self.now <= value + late:
            self._break(self.frame.source_part(source))
        return event

    def promise(self, link, number):
        """Let a link's receiver promise to hear no earlier sent words, and return the event."""
        self._check_link(link)
        receiver = self.frame.links[link][2]
        return self._make(receiver, False, lambda watch, shown: watch.promise(shown, link, number))

    def anew(self, device, kinds):
        """Let all clocks of a device begin anew by these kinds, and return the event."""
        event = self._make(device, False, lambda watch, shown: watch.anew(shown, kinds))
        for clock, kind in zip(self.frame.clocks_of(device), kinds):
            self.clocks[clock].begin_unit(kind)
        return event

    def commit(self, device):
        """Let a device commit, and return the event and the stamp."""
        return self._make(device, False, lambda watch, shown: watch.commit(shown))

    def send(self, link, kind):
        """Send a word by a kind of a link, and return the event and the number of the letter."""
        self._check_link(link)
        sender = self.frame.links[link][1]
        event, text = self._make(sender, False, lambda watch, shown: watch.send(shown, link, kind))
        return event, self._add_letter(text, kind)

    def tell(self, link):
        """Tell a word by a link, and return the event and the number of the letter."""
        self._check_link(link)
        sender = self.frame.links[link][1]
        event, text = self._make(sender, False, lambda watch, shown: watch.tell(shown, link))
        return event, self._add_letter(text, None)

    def again(self, link):
        """Give the last told word under way by a link again, and return the number of the letter."""
        self._check_link(link)
        sender = self.frame.links[link][1]
        self._check_state(sender, False)
        text = self.watches[sender].again(link)
        check(text is not None)
        return self._add_letter(text, None)

    def hear(self, letter):
        """Let a letter be heard by its receiver, and return the event."""
        text = self.letter_text(letter)
        _, link, number, kind = self.letters[letter]
        _, sender, receiver, kinds = self.frame.links[link]
        event = self._make(receiver, False, lambda watch, shown: watch.hear(shown, text))
        if kind is not None:
            _, least, most = kinds[kind]
            took = self.now - self.instants[(sender, number)]
            if took < least or (most is not None and took > most):
                self._break(self.frame.link_part(link))
        return event

    def shows(self, clock):
        """Return the number that a clock shows."""
        self._check_clock(clock)
        return self.clocks[clock].number

    def shown_by(self, device):
        """Return the list of what a device's clocks show."""
        self._check_device(device)
        return [self.clocks[clock].number for clock in self.frame.clocks_of(device)]

    def is_asleep(self, device):
        """Return True if a device is asleep."""
        self._check_device(device)
        return self.asleep[device]

    def time_of(self, event):
        """Return the instant of an event."""
        check(event in self.instants)
        return self.instants[event]

    def letter_text(self, letter):
        """Return the text of a letter."""
        check(0 <= letter < len(self.letters))
        return self.letters[letter][0]

    def watch_of(self, device):
        """Return the very watch of a device."""
        self._check_device(device)
        return self.watches[device]

    def view_of(self, device):
        """Return the view of all events that a device knows."""
        counts = self.watch_of(device).known_counts
        return [events[:count] for events, count in zip(self.story, counts)]

    def _check_device(self, device):
        """Raise NotPossible unless there is such a device."""
        check(is_device(self.frame, device))

    def _check_state(self, device, asleep):
        """Raise NotPossible unless there is such a device, and it is asleep or not asleep, as is asked for."""
        check(self.is_asleep(device) == asleep)

    def _check_clock(self, clock):
        """Raise NotPossible unless there is such a clock."""
        check(0 <= clock < len(self.clocks))

    def _check_link(self, link):
        """Raise NotPossible unless there is such a link."""
        check(is_link(self.frame, link))

    def _device_of(self, clock):
        """Return the device of a clock."""
        self._check_clock(clock)
        return self.frame.clocks[clock][1]

    def _make(self, device, asleep, call):
        """Make an event by a call of a device's watch, and return what the call returns."""
        self._check_state(device, asleep)
        watch = self.watches[device]
        shown = self.shown_by(device)
        given = obey(lambda: call(watch, shown))
        self.instants[(device, len(self.story[device]))] = self.now
        self.story[device].append(watch.last_made)
        return given

    def _add_letter(self, text, kind):
        """Add a letter, and return its number."""
        _, _, link, number, _ = read_letter(text)
        self.letters.append((text, link, number, kind))
        return len(self.letters) - 1

    def _break(self, part):
        """Let a part be among those that broke."""
        if part not in self.broken:
            self.broken.append(part)


def check(holds):
    """Raise NotPossible unless what is needed holds."""
    if not holds:
        raise NotPossible()


def obey(call):
    """Return what a call of a watch returns; raise NotPossible if the watch refuses."""
    try:
        return call()
    except WhensureError:
        raise NotPossible() from None
