"""Which points and events a watch keeps."""

from whensure.bounds.points import NO_CLOCK, START, event_point


def live_points(known):
    """Return the list of the points that are live by what is known, each once."""
    frame = known.frame
    found = {START: True}
    for device, count in enumerate(known.counts):
        found[event_point((device, count - 1))] = True
    for device in range(len(frame.devices)):
        for point, _, _ in known.hands_of(device):
            if point is not None:
                found[point] = True
    for link, (_, sender, _, _) in enumerate(frame.links):
        for number, _, _ in known.words(link):
            found[event_point((sender, number))] = True
    return list(found)


def points_to_keep(known, pinned):
    """Return the list of the live points and of those of pinned events."""
    return live_points(known) + [event_point(event) for event in pinned]


def events_kept(known, pinned):
    """Return the ascending list of the events, the beginning among them, that are live or pinned, each once."""
    points = {point: True for point in points_to_keep(known, pinned) if point[2] == NO_CLOCK}
    return sorted([(device, number) for device, number, _ in points])
