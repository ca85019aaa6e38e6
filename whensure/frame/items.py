"""Whether a frame has what numbers name. The numbers can be any integers, so those below 0 are looked at, too."""


def is_device(frame, device):
    """Tell if there is such a device."""
    return 0 <= device < len(frame.devices)


def is_clock_of(frame, device, clock):
    """Tell if there is such a clock of the device."""
    return 0 <= clock < len(frame.clocks) and frame.clocks[clock][1] == device


def is_source_at(frame, device, source):
    """Tell if there is such a source at the device."""
    return 0 <= source < len(frame.sources) and frame.sources[source][1] == device


def is_link(frame, link):
    """Tell if there is such a link."""
    return 0 <= link < len(frame.links)


def leads_from(frame, device, link):
    """Tell if there is such a link from the device."""
    return is_link(frame, link) and frame.links[link][1] == device


def leads_to(frame, device, link):
    """Tell if there is such a link to the device."""
    return is_link(frame, link) and frame.links[link][2] == device


def has_kind(kinds, kind):
    """Tell if there is such a kind among those of a part."""
    return 0 <= kind < len(kinds)


def clock_has_kind(frame, device, clock, kind):
    """Tell if there is such a clock of the device, with such a kind."""
    return is_clock_of(frame, device, clock) and has_kind(frame.clocks[clock][3], kind)


def source_has_kind(frame, device, source, kind):
    """Tell if there is such a source at the device, with such a kind."""
    return is_source_at(frame, device, source) and has_kind(frame.sources[source][2], kind)


def link_has_kind(frame, device, link, kind):
    """Tell if there is such a link from the device, with such a kind."""
    return leads_from(frame, device, link) and has_kind(frame.links[link][3], kind)


def clocks_have_kinds(frame, device, kinds):
    """Tell if there are as many kinds as clocks of the device, and each is one of its clock."""
    clocks = frame.clocks_of(device)
    if len(kinds) != len(clocks):
        return False
    return all([has_kind(frame.clocks[clock][3], kind) for clock, kind in zip(clocks, kinds)])
