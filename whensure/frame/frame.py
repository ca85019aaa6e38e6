"""Frames, with devices, clocks, links and sources given by their numbers."""

BEGINNING = (-1, 0)


class Frame:
    """Which devices there are, by which rules their parts work, and how many may break them."""

    def __init__(self, devices, clocks, links, sources, faults):
        self.devices = list(devices)
        self.clocks = list(clocks)
        self.links = list(links)
        self.sources = list(sources)
        self.faults = faults

    @property
    def part_count(self):
        """The number of clocks, links and sources together."""
        return len(self.clocks) + len(self.links) + len(self.sources)

    def clocks_of(self, device):
        """Return the numbers of the device's clocks, ascending."""
        return [number for number, clock in enumerate(self.clocks) if clock[1] == device]

    def link_part(self, link):
        """Return the number that the link has among the parts."""
        return len(self.clocks) + link

    def source_part(self, source):
        """Return the number that the source has among the parts."""
        return len(self.clocks) + len(self.links) + source
