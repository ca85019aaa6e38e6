"""What a device knows of the events of all devices, of their words and of their commits."""

from whensure.bounds.bounds import event_bounds, first_hands, hands_after
from whensure.errors import InvalidRecord
from whensure.frame.items import is_device, is_link
from whensure.knowing.deeds import is_possible
from whensure.knowing.ways import Way
from whensure.story.events import birth


class Known:
    """What the device owner knows; at first only the births."""

    def __init__(self, frame, owner):
        self.frame = frame
        self.owner = owner
        # How many events of each device are known, and the knows of the last of them.
        self.counts = [1 for _ in frame.devices]
        self.last_knows = [birth(frame)[4] for _ in frame.devices]
        self.hands = [first_hands(frame, device) for device in range(len(frame.devices))]
        self.ways = [Way(link[2]) for link in frame.links]
        # The last known events of each device, as far as they are kept.
        self.kept = [[] for _ in frame.devices]
        # Triples (stamp, device, number), ascending.
        self.commits = []

    def knows_of(self, device):
        """Return the knows of the device's last known event."""
        return self.last_knows[device]

    def hands_of(self, device):
        """Return the list of the hands of the device's clocks."""
        return list(self.hands[device])

    def words(self, link):
        """Return the list of the words under way by the link, tuples (number, kind, knows)."""
        return list(self.ways[link].under_way)

    def marks(self, link):
        """Return the tuple (floor of sent words, floor of told words, told heard, needs) of the link."""
        way = self.ways[link]
        return (way.floor_of_sent, way.floor_of_told, way.told_heard, way.needs)

    def first_kept(self, device):
        """Return the number of the device's first kept event; how many are known if none is kept."""
        return self.counts[device] - len(self.kept[device])

    def kept_of(self, device):
        """Return the pair of the first number and the list of the device's kept events."""
        return self.first_kept(device), list(self.kept[device])

    def kept_event(self, device, number):
        """Return a known event, or None if it is not kept."""
        place = number - self.first_kept(device)
        return self.kept[device][place] if place >= 0 else None

    def word_heard(self, deed):
        """Return the word under way that a deed hears; None if it hears none, or the word is not under way."""
        if deed[0] != "hear" or not is_link(self.frame, deed[1]):
            return None
        return self.ways[deed[1]].find_word(deed[2])

    def expected(self, device, deed):
        """Return the knows that the next event of the device must have if it has this deed."""
        knows = list(self.last_knows[device])
        word = self.word_heard(deed)
        if word is not None:
            knows = [max(pair) for pair in zip(knows, word[2])]
        knows[device] = self.counts[device] + 1
        return tuple(knows)

    def can_put(self, record):
        """Tell if a record can be put."""
        device, number, event = record
        if not is_device(self.frame, device) or number != self.counts[device]:
            return False
        _, shown, after, deed, knows = event
        clocks = len(self.hands[device])
        if len(shown) != clocks or len(after) != clocks:
            return False
        return knows == self.expected(device, deed) and is_possible(self, device, deed)

    def bounds_of(self, record):
        """Return the list of the bounds of a record that can be put."""
        device, _, event = record
        word = self.word_heard(event[3])
        bounds, _ = event_bounds(self.frame, record, self.hands[device], None if word is None else word[1])
        return bounds

    def put_record(self, record):
        """Let a record become known. Raise InvalidRecord if it cannot be put."""
        if not self.can_put(record):
            raise InvalidRecord()
        device, number, event = record
        self.hands[device] = hands_after(self.frame, record, self.hands[device])
        self.counts[device] = number + 1
        self.last_knows[device] = event[4]
        self.kept[device].append(event)
        self._carry_out(device, number, event)
        self._forget()

    def _carry_out(self, device, number, event):
        """Change what an event's deed changes of words and commits."""
        deed = event[3]
        if deed[0] == "send":
            self.ways[deed[1]].put_word((number, deed[2], event[4]))
        elif deed[0] == "tell":
            self.ways[deed[1]].put_word((number, None, event[4]))
        elif deed[0] == "hear":
            self.ways[deed[1]].hear_word(deed[2], number)
        elif deed[0] == "promise":
            self.ways[deed[1]].raise_floor(deed[2])
        elif deed[0] == "commit":
            self.commits = sorted([*self.commits, (deed[1], device, number)])
        elif deed[0] == "anew":
            for way in self.ways:
                if way.receiver == device:
                    way.require(number + 1)

    def _forget(self):
        """Keep only events that some other device is not known to know."""
        others = [knows for device, knows in enumerate(self.last_knows) if device != self.owner]
        for device, count in enumerate(self.counts):
            least = min([knows[device] for knows in others], default=count)
            gone = least - self.first_kept(device)
            if gone > 0:
                self.kept[device] = self.kept[device][gone:]

    def records_for(self, receiver, knows):
        """Return the list of the records for a receiver up to some knows, each behind those that it builds on."""
        taken = list(self.last_knows[receiver])
        records = []
        device = self._next_for(taken, knows)
        while device is not None:
            records.append((device, taken[device], self.kept_event(device, taken[device])))
            taken[device] += 1
            device = self._next_for(taken, knows)
        return records

    def _next_for(self, taken, knows):
        """Return the first device whose next event is to be told and builds only on those taken; None if none is."""
        for device, number in enumerate(taken):
            if number < knows[device]:
                allowed = list(taken)
                allowed[device] = number + 1
                named = self.kept_event(device, number)[4]
                if all([many <= most for many, most in zip(named, allowed)]):
                    return device
        return None

    def fork(self):
        """Return a new object that is equal and independent."""
        known = Known(self.frame, self.owner)
        known.counts = list(self.counts)
        known.last_knows = list(self.last_knows)
        known.hands = [list(hands) for hands in self.hands]
        known.ways = [way.fork() for way in self.ways]
        known.kept = [list(events) for events in self.kept]
        known.commits = list(self.commits)
        return known
