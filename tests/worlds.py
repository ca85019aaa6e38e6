"""Worlds in which clocks run, words travel and parts may be broken: views of which all true instants are known."""

from whensure.frame.frame import Frame
from whensure.story.events import first_view


def small_frame(chance, faults=0, devices=3, clocks=3, links=1, sources=1):
    """Return a frame with small amounts; links are pairs of links."""
    def kinds(make):
        return tuple((name, *make()) for name in ["k", "l"][:chance.randint(1, 2)])

    def clock_kind():
        low = chance.randint(1, 4)
        return low, low + chance.randint(0, 3)

    def link_kind():
        least = chance.randint(0, 4)
        return least, chance.choice([None, least, least + 2, least + 5])

    places = range(devices)
    ways = []
    for _ in range(links if devices > 1 else 0):
        sender, receiver = chance.sample(places, 2)
        ways.extend([(sender, receiver), (receiver, sender)])
    return Frame(
        [f"d{at}" for at in places],
        [(f"c{at}", chance.choice(places), chance.random() < 0.5, kinds(clock_kind)) for at in range(clocks)],
        [(f"l{at}", *way, kinds(link_kind)) for at, way in enumerate(ways)],
        [
            (f"s{at}", chance.choice(places), kinds(lambda: (chance.randint(0, 2), chance.randint(0, 2))))
            for at in range(sources)
        ],
        faults,
    )


class RunningClock:
    """A clock that gains unit after unit, each in a number of instants from low to high."""

    def __init__(self, chance, kinds):
        self.chance = chance
        self.kinds = kinds
        self.begin(chance.randint(-3, 3), 0)
        self.phase = chance.randint(0, self.unit)

    def new_unit(self):
        """Return how many instants the next unit takes."""
        return self.chance.randint(*self.kinds[self.kind][1:])

    def begin(self, number, kind):
        """Begin a unit at this number and by this kind."""
        self.number = number
        self.kind = kind
        self.phase = 0
        self.unit = self.new_unit()

    def run(self, amount):
        """Run for so many instants; at the very end of a unit it may show either number."""
        self.phase += amount
        while self.phase > self.unit or (self.phase == self.unit and self.chance.random() < 0.5):
            self.phase -= self.unit
            self.number += 1
            self.unit = self.new_unit()

    def jump(self):
        """Show anything, with anything as what is gone of its unit."""
        self.number += self.chance.randint(-4, 4)
        self.unit = self.new_unit()
        self.phase = self.chance.randint(0, self.unit)


class World:
    """All devices of a frame on a true time, the view of all their events, and the true instants of all points."""

    # How often a device that could do something falls asleep instead.
    sleepiness = 0.2

    def __init__(self, frame, chance, broken=()):
        self.frame = frame
        self.chance = chance
        self.broken = broken
        self.now = chance.randint(-20, 20)
        self.clocks = [RunningClock(chance, clock[3]) for clock in frame.clocks]
        self.asleep = [False for _ in frame.devices]
        self.slept = [False for _ in frame.devices]
        self.knows = [[1 for _ in frame.devices] for _ in frame.devices]
        self.words = []
        self.view = first_view(frame)
        self.instants = {(-1, 0, -1): 0}
        for device in range(len(frame.devices)):
            self.instants[(device, 0, -1)] = self.now - chance.randint(0, 5)

    def pass_time(self, amount):
        """Let so many instants pass."""
        self.now += amount
        for number, clock in enumerate(self.clocks):
            _, device, goes_on, _ = self.frame.clocks[number]
            if goes_on or not self.asleep[device]:
                clock.run(amount)

    def deeds(self, device):
        """Return the deeds that the device can do now, some of them several times to have them oftener."""
        frame = self.frame
        clocks = frame.clocks_of(device)
        kinds = tuple(self.chance.randrange(len(frame.clocks[clock][3])) for clock in clocks)
        found = [("note",), ("note",), ("set",), ("commit", 5), ("anew", kinds)]
        for place, clock in enumerate(clocks):
            found.append(("kind", clock, kinds[place]))
        for number, (_, at, source_kinds) in enumerate(frame.sources):
            if at == device:
                found.extend([("mark", number, self.chance.randrange(len(source_kinds)))] * 2)
        for number, (_, sender, _, link_kinds) in enumerate(frame.links):
            if sender == device:
                found.extend([("tell", number)] + [("send", number, self.chance.randrange(len(link_kinds)))] * 4)
        for word in self.words:
            if self.can_be_heard(word, device):
                found.extend([("hear", word[0], word[1])] * 9)
        return found

    def can_be_heard(self, word, device):
        """Tell if a word may be heard by the device now."""
        link, number, kind = word
        _, sender, receiver, kinds = self.frame.links[link]
        if receiver != device:
            return False
        if kind is None or self.frame.link_part(link) in self.broken:
            return True
        took = self.now - self.instants[(sender, number, -1)]
        _, least, most = kinds[kind]
        return least <= took and (most is None or took <= most)

    def value_of(self, source, kind):
        """Return what the source says now."""
        if self.frame.source_part(source) in self.broken:
            return self.now + self.chance.randint(-30, 30)
        _, early, late = self.frame.sources[source][2][kind]
        return self.chance.randint(self.now - late, self.now + early)

    def break_rules(self, device, deed):
        """Change clocks as they may without keeping to their rules: at a beginning, and where they are broken."""
        for clock in self.frame.clocks_of(device):
            if deed[0] == "anew" or (clock in self.broken and self.chance.random() < 0.4):
                self.clocks[clock].jump()

    def make(self, device, deed):
        """Make an event of the device."""
        self.break_rules(device, deed)
        number = len(self.view[device])
        clocks = self.frame.clocks_of(device)
        shown = self.shown(device)
        self.instants[(device, number, -1)] = self.now
        for clock in clocks:
            self.instants[(device, number, clock)] = self.now - self.clocks[clock].phase
        self.knows[device][device] = number + 1
        deed = self.carry_out(device, number, deed)
        knows = tuple(self.knows[device])
        self.view[device].append((self.slept[device], shown, self.shown(device), deed, knows))
        self.slept[device] = self.asleep[device] = False

    def shown(self, device):
        """Return what the device's clocks show."""
        return tuple(self.clocks[clock].number for clock in self.frame.clocks_of(device))

    def carry_out(self, device, number, deed):
        """Do what a deed does, and return the deed as an event has it."""
        clocks = self.frame.clocks_of(device)
        if deed[0] == "set":
            for clock in clocks:
                moved = self.chance.randint(-2, 2)
                if moved != 0:
                    self.clocks[clock].begin(self.clocks[clock].number + moved, self.clocks[clock].kind)
            return ("note",)
        if deed[0] == "anew":
            for place, clock in enumerate(clocks):
                self.clocks[clock].begin(self.clocks[clock].number, deed[1][place])
        elif deed[0] == "kind":
            self.clocks[deed[1]].begin(self.clocks[deed[1]].number, deed[2])
        elif deed[0] == "mark":
            return (*deed, self.value_of(deed[1], deed[2]))
        elif deed[0] in ("send", "tell"):
            self.words.append((deed[1], number, deed[2] if deed[0] == "send" else None))
        elif deed[0] == "hear":
            sender = self.frame.links[deed[1]][1]
            known = self.view[sender][deed[2]][4]
            if self.chance.random() < 0.9:
                self.words = [word for word in self.words if word[:2] != deed[1:]]
            self.knows[device] = [max(pair) for pair in zip(self.knows[device], known)]
        return deed

    def step(self):
        """Let something happen."""
        self.pass_time(self.chance.choice([0, 0, 1, 1, 2, 3, 7]))
        device = self.chance.randrange(len(self.frame.devices))
        if not self.asleep[device] and self.chance.random() < self.sleepiness:
            self.asleep[device] = self.slept[device] = True
        elif self.asleep[device] and self.chance.random() < 0.3:
            self.asleep[device] = False
        elif not self.asleep[device] or self.chance.random() < 0.5:
            self.make(device, self.chance.choice(self.deeds(device)))

    def events(self):
        """Return all events of the view, as pairs."""
        return [(device, number) for device, events in enumerate(self.view) for number in range(len(events))]


def lived_world(chance, frame, steps, broken=()):
    """Return a world in which so many steps were made."""
    world = World(frame, chance, broken)
    for _ in range(steps):
        world.step()
    return world
