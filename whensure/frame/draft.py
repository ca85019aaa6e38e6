"""What the lines of a frame's text have said so far."""

from whensure.frame.frame import Frame
from whensure.frame.words import number_of


class DraftPart:
    """A clock, link or source, with the numbers of the devices that its line names."""

    def __init__(self, role, name, places, goes_on):
        self.role = role
        self.name = name
        self.places = places
        self.goes_on = goes_on
        self.kinds = []


class Draft:
    """A frame that is being read."""

    def __init__(self):
        self.devices = []
        self.parts = []
        self.faults = None
        # The part that a kind line would belong to, if the next line is one.
        self.last_part = None

    def parts_of(self, role):
        """Return the clocks, the links or the sources, in the order of their lines."""
        return [part for part in self.parts if part.role == role]

    def names_given(self, role):
        """Return the names that a line which begins with this word must not give again."""
        if role == "device":
            return list(self.devices)
        if role == "kind":
            return [kind[0] for kind in self.last_part.kinds]
        return [part.name for part in self.parts_of(role)]

    def take(self, words):
        """Add what a line says; it was checked before."""
        if words[0] == "kind":
            self.last_part.kinds.append(kind_in(words))
            return
        self.last_part = None
        if words[0] == "device":
            self.devices.append(words[1])
        elif words[0] == "faults":
            self.faults = number_of(words[1])
        else:
            places = [self.devices.index(name) for name in devices_in(words)]
            self.last_part = DraftPart(words[0], words[1], tuple(places), goes_on_in(words))
            self.parts.append(self.last_part)


def kind_in(words):
    """Return the kind that a kind line gives; its last number may be None."""
    return words[1], number_of(words[2]), number_of(words[3])


def devices_in(words):
    """Return the names of the devices where a line says that a part is."""
    if words[0] == "link":
        return [words[3], words[5]]
    if words[0] in ("clock", "source"):
        return [words[3]]
    return []


def goes_on_in(words):
    """Tell if a part's line says that it goes on asleep."""
    return words[4:] == ["goes", "on", "asleep"]


def faults_of(draft):
    """Return how many parts may break their rules."""
    return 0 if draft.faults is None else draft.faults


def frame_of(draft):
    """Return the frame that all lines together give."""
    clocks = [(part.name, *part.places, part.goes_on, tuple(part.kinds)) for part in draft.parts_of("clock")]
    links = [(part.name, *part.places, tuple(part.kinds)) for part in draft.parts_of("link")]
    sources = [(part.name, *part.places, tuple(part.kinds)) for part in draft.parts_of("source")]
    return Frame(draft.devices, clocks, links, sources, faults_of(draft))
