"""The writing of frames."""


def amount_word(amount):
    """Return how an amount is written; None is that of words without an upper bound."""
    return "none" if amount is None else str(amount)


def kind_lines(kinds):
    """Return the lines of the kinds of a part."""
    return [f"kind {name} {amount_word(first)} {amount_word(second)}" for name, first, second in kinds]


def clock_lines(frame):
    """Return the lines of the clocks, each followed by its kinds."""
    lines = []
    for name, device, goes_on, kinds in frame.clocks:
        ending = " goes on asleep" if goes_on else ""
        lines.append(f"clock {name} of {frame.devices[device]}{ending}")
        lines.extend(kind_lines(kinds))
    return lines


def link_lines(frame):
    """Return the lines of the links, each followed by its kinds."""
    lines = []
    for name, sender, receiver, kinds in frame.links:
        lines.append(f"link {name} from {frame.devices[sender]} to {frame.devices[receiver]}")
        lines.extend(kind_lines(kinds))
    return lines


def source_lines(frame):
    """Return the lines of the sources, each followed by its kinds."""
    lines = []
    for name, device, kinds in frame.sources:
        lines.append(f"source {name} at {frame.devices[device]}")
        lines.extend(kind_lines(kinds))
    return lines


def write_frame(frame):
    """Return the written form of a frame."""
    lines = [f"device {name}" for name in frame.devices]
    lines.extend(clock_lines(frame))
    lines.extend(link_lines(frame))
    lines.extend(source_lines(frame))
    if frame.faults != 0:
        lines.append(f"faults {frame.faults}")
    return "".join([line + "\n" for line in lines])
