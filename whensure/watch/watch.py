"""Watches: for any two events that a device's watch keeps, by how much one is later than the other."""

from whensure.bounds.points import event_point
from whensure.choices.choice_tables import copies_of, first_tables, greatest_table
from whensure.choices.stretches import greatest_of, least_of
from whensure.errors import (
    BeginAnewFirst,
    InvalidPlan,
    InvalidPromise,
    NoGreatestTime,
    NotForThisDevice,
    NothingPossible,
    NotKept,
    NotPinned,
    TooManyPins,
    TooManyUnderWay,
    UnknownCommit,
)
from whensure.frame.frame import BEGINNING
from whensure.frame.items import (
    clock_has_kind,
    clocks_have_kinds,
    is_device,
    link_has_kind,
    source_has_kind,
)
from whensure.knowing.deeds import is_possible
from whensure.knowing.known import Known
from whensure.story.texts import read_letter, write_letter
from whensure.watch.asking import Now, all_at_least, all_at_most, farthest_from, order_of
from whensure.watch.checks import check_clock, check_exists, check_link_from, check_link_to, check_shown
from whensure.watch.letters import letter_of, records_heard
from whensure.watch.living import events_kept, points_to_keep
from whensure.watch.plans import is_plan, plan_stretch

MOST_PINS = 4


class Watch:
    """The watch of a device: what the device knows, and a table for each choice that is possible."""

    def __init__(self, frame, device):
        check_exists(is_device(frame, device))
        self.frame = frame
        self.device = device
        self.owes = False
        self.known = Known(frame, device)
        self.tables = first_tables(frame)
        self.pinned = []
        # The last event that the watch made itself, for whoever collects events.
        self.last_made = None

    @property
    def known_counts(self):
        """The list of how many events of each device are known."""
        return list(self.known.counts)

    @property
    def pins(self):
        """The list of the pinned events, in the order in which they were pinned."""
        return list(self.pinned)

    @property
    def live(self):
        """The ascending list of the events that are kept: those that are live or pinned, and the beginning."""
        return events_kept(self.known, self.pinned)

    @property
    def choices(self):
        """The list of the choices that have a table."""
        return self.tables.choices_left()

    @property
    def surely_broken(self):
        """The list of the parts that are in each choice with a table; None if there is none."""
        left = self.tables.choices_left()
        if not left:
            return None
        return [part for part in range(self.frame.part_count) if all([part in choice for choice in left])]

    def note(self, shown):
        """Make an event at which nothing else happens, and return it."""
        self._check_now(shown)
        return self._make(shown, ("note",))

    def wake(self, shown):
        """Make the event at which the device is awake again, and return it."""
        self._check_now(shown)
        return self._make_event((True, tuple(shown), tuple(shown), ("note",), self._knows_next()))

    def set_clock(self, shown, clock, value):
        """Make the event at which a clock is set to a value, and return it."""
        self._check_now(shown)
        check_clock(self.frame, self.device, clock)
        place = self.frame.clocks_of(self.device).index(clock)
        if shown[place] == value:
            # To set a clock to what it shows says that it comes to this number now, as giving it a kind does.
            return self._make(shown, ("kind", clock, self.known.hands_of(self.device)[place][2]))
        after = list(shown)
        after[place] = value
        return self._make_event((False, tuple(shown), tuple(after), ("note",), self._knows_next()))

    def tell_kind(self, shown, clock, kind):
        """Make the event from which on a clock runs by a kind, and return it."""
        self._check_now(shown)
        check_exists(clock_has_kind(self.frame, self.device, clock, kind))
        return self._make(shown, ("kind", clock, kind))

    def mark(self, shown, source, kind, value):
        """Make the event at which a source says, by a kind, that true time is value, and return it."""
        self._check_now(shown)
        check_exists(source_has_kind(self.frame, self.device, source, kind))
        return self._make(shown, ("mark", source, kind, value))

    def promise(self, shown, link, number):
        """Promise to hear no word sent by the link at an event with a lesser number; return the event."""
        self._check_now(shown)
        check_link_to(self.frame, self.device, link)
        deed = ("promise", link, number)
        if not is_possible(self.known, self.device, deed):
            raise InvalidPromise()
        return self._make(shown, deed)

    def hear(self, shown, text):
        """Hear the letter of a text, and return the event."""
        self._check_now(shown)
        letter = read_letter(text)
        if letter[1] != self.device:
            raise NotForThisDevice()
        records = records_heard(self.known, tuple(shown), letter)
        for record in records[:-1]:
            self._put(record)
        return self._make_event(records[-1][2])

    def anew(self, shown, kinds):
        """Make the event at which all clocks of the device begin anew by these kinds, and return it."""
        check_shown(self.frame, self.device, shown)
        check_exists(clocks_have_kinds(self.frame, self.device, kinds))
        event = self._make(shown, ("anew", tuple(kinds)))
        self.owes = False
        return event

    def send(self, shown, link, kind):
        """Send a word by a kind of the link; return the event and the letter's text."""
        self._check_now(shown)
        check_exists(link_has_kind(self.frame, self.device, link, kind))
        return self._give_word(shown, ("send", link, kind))

    def tell(self, shown, link):
        """Tell a word by the link; return the event and the letter's text."""
        self._check_now(shown)
        check_link_from(self.frame, self.device, link)
        return self._give_word(shown, ("tell", link))

    def commit(self, shown):
        """Commit with the greatest true time that it can be now; return the event and this stamp."""
        stamp = self.stamp(shown)
        if stamp is None:
            raise NoGreatestTime()
        return self._make(shown, ("commit", stamp)), stamp

    def again(self, link):
        """Return the text of the letter of the last told word under way by the link, as it is now; None without one."""
        check_link_from(self.frame, self.device, link)
        told = [word for word in self.known.words(link) if word[1] is None]
        return self._letter_text(link, told[-1][0], told[-1][2]) if told else None

    def pin(self, event):
        """Keep an event until it is unpinned."""
        self._check_kept(event)
        if event == BEGINNING or event in self.pinned:
            return
        if len(self.pinned) == MOST_PINS:
            raise TooManyPins()
        self.pinned.append(event)

    def unpin(self, event):
        """Do not keep a pinned event any longer than it is live."""
        if event not in self.pinned:
            raise NotPinned()
        self.pinned.remove(event)
        self._forget()

    def close_era(self):
        """Let all choices be possible again, with the greatest distances of all tables."""
        if not self.tables.choices_left():
            raise NothingPossible()
        self.tables = copies_of(greatest_table(self.tables), self.frame)

    def between(self, first, second):
        """Return the list of stretches of how much later the second event is than the first one."""
        self._check_kept(first)
        self._check_kept(second)
        return self.tables.stretches(event_point(first), event_point(second))

    def order(self, first, second):
        """Return the list of what is possible of before, at once and after: how the first event lies to the second."""
        return order_of(self.between(first, second))

    def miss(self, shown, event, time):
        """Return how far now can be from exactly time after the event, at most; None if there is no such number."""
        return farthest_from(self._since(shown, event), time)

    def stamp(self, shown):
        """Return the greatest true time that it can be now, or None."""
        return greatest_of(self._since(shown, BEGINNING))

    def done(self, shown, event):
        """Return True if true time has surely come to the stamp of a known commit."""
        self._check_now(shown)
        stamps = [stamp for stamp, device, number in self.known.commits if (device, number) == event]
        if not stamps:
            raise UnknownCommit()
        return all_at_least(self._since(shown, BEGINNING), stamps[0])

    def front(self):
        """Return the true time up to which no unknown commit has a stamp, or None."""
        last = [(device, count - 1) for device, count in enumerate(self.known.counts)]
        least = [least_of(self.between(BEGINNING, event)) for event in last]
        return None if None in least else min(least)

    def log(self):
        """Return the list of the pairs of the known commits before the front and their stamps, in their order."""
        front = self.front()
        if front is None:
            return []
        return [((device, number), stamp) for stamp, device, number in self.known.commits if stamp < front]

    def may_use(self, shown, event, time):
        """Return True if now is surely at most time after the event."""
        return all_at_most(self._since(shown, event), time)

    def may_give(self, shown, event, time):
        """Return True if now is surely later than time after the event."""
        return all_at_least(self._since(shown, event), time + 1)

    def misses(self, shown, plan, count, event, time, awake):
        """Return the stretch of how much later than time after the event the deed of a plan is done."""
        self._check_now(shown)
        for clock, _ in plan:
            check_clock(self.frame, self.device, clock)
        self._check_kept(event)
        if not is_plan(self.frame, self.device, shown, plan, count):
            raise InvalidPlan()
        now = Now(self.known, self.tables, tuple(shown))
        least, greatest = plan_stretch(self.frame, now, plan, count, event, awake)
        return (None if least is None else least - time, None if greatest is None else greatest - time)

    def _check_now(self, shown):
        """Raise an error unless the watch can make events, and shown can be what its clocks show."""
        if self.owes:
            raise BeginAnewFirst()
        check_shown(self.frame, self.device, shown)

    def _check_kept(self, event):
        """Raise NotKept unless an event is kept."""
        if event not in events_kept(self.known, self.pinned):
            raise NotKept()

    def _since(self, shown, event):
        """Return the list of stretches of how much later now is than an event."""
        self._check_now(shown)
        self._check_kept(event)
        return Now(self.known, self.tables, tuple(shown)).since(event)

    def _knows_next(self):
        """Return the knows of the watch's next event, if it hears nothing by it."""
        knows = list(self.known.counts)
        knows[self.device] += 1
        return tuple(knows)

    def _make(self, shown, deed):
        """Make an event with this deed at which no clock is set, and return it."""
        return self._make_event((False, tuple(shown), tuple(shown), deed, self._knows_next()))

    def _make_event(self, event):
        """Let this event of the own device happen, and return it as a pair."""
        number = self.known.counts[self.device]
        self._put((self.device, number, event))
        self.last_made = event
        return (self.device, number)

    def _give_word(self, shown, deed):
        """Make an event that sends or tells a word; return it and the text of the word's letter."""
        if not is_possible(self.known, self.device, deed):
            raise TooManyUnderWay()
        event = self._make(shown, deed)
        return event, self._letter_text(deed[1], event[1], self.known.knows_of(self.device))

    def _letter_text(self, link, number, knows):
        """Return the text of the letter of the own word with this number and these knows."""
        return write_letter(letter_of(self.known, link, number, knows))

    def _put(self, record):
        """Put a record, which can be put."""
        bounds = self.known.bounds_of(record)
        self.known.put_record(record)
        self.tables.put_bounds(bounds)
        self._forget()

    def _forget(self):
        """Remove all points that are neither live nor pinned."""
        self.tables.keep_only(points_to_keep(self.known, self.pinned))
