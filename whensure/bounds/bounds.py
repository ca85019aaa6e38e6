"""The bounds that events imply, and the hands of clocks that are needed for them."""

from whensure.bounds.points import START, event_point

# In place of a part, in the bounds that follow from the order of events.
NO_PART = -1


def first_hands(frame, device):
    """Return the list of the hands of the device's clocks at its birth."""
    return [(None, 0, 0) for _ in frame.clocks_of(device)]


def at_least_later(first, second, least, part):
    """Return the bound which says that the second point is at least so much later than the first one."""
    return (second, first, -least, part)


def from_to_later(first, second, least, most, part):
    """Return the two bounds which say that the second point is from least to most later than the first one."""
    return [(first, second, most, part), at_least_later(first, second, least, part)]


def running_since(frame, clock, event, hand):
    """Return the point of a clock's hand; None if it is not known, or the clock was stopped before the event."""
    asleep = event[0]
    deed = event[3]
    goes_on = frame.clocks[clock][2]
    stopped = deed[0] == "anew" or (asleep and not goes_on)
    return None if stopped else hand[0]


def clock_bounds(frame, record, clock, place, hand):
    """Return the bounds of a record that follow from what a clock shows; place is its place in the device's list."""
    device, number, event = record
    here = event_point((device, number))
    tick = (device, number, clock)
    _, low, high = frame.clocks[clock][3][hand[2]]
    since = running_since(frame, clock, event, hand)
    if since is None:
        return from_to_later(tick, here, 0, high, clock)
    gained = event[1][place] - hand[1]
    if gained == 0:
        return from_to_later(since, here, 0, high, clock)
    bounds = from_to_later(since, tick, low * gained, high * gained, clock)
    bounds.append(at_least_later(since, tick, 0, clock))
    bounds.append(at_least_later(event_point((device, number - 1)), tick, low * (gained - 1), clock))
    bounds.extend(from_to_later(tick, here, 0, high, clock))
    return bounds


def kind_given(deed, clock, place):
    """Return the kind that a deed gives to a clock; None if it gives none."""
    if deed[0] == "anew":
        return deed[1][place]
    if deed[0] == "kind" and deed[1] == clock:
        return deed[2]
    return None


def hand_after(frame, record, clock, place, hand):
    """Return the hand of a clock after a record."""
    device, number, event = record
    shown = event[1][place]
    after = event[2][place]
    given = kind_given(event[3], clock, place)
    if given is not None:
        return (event_point((device, number)), after, given)
    if after != shown:
        return (event_point((device, number)), after, hand[2])
    since = running_since(frame, clock, event, hand)
    if since is not None and shown == hand[1]:
        return hand
    return ((device, number, clock), shown, hand[2])


def hands_after(frame, record, hands):
    """Return the list of the hands of the device's clocks after a record; hands are those before it."""
    clocks = frame.clocks_of(record[0])
    return [hand_after(frame, record, clock, place, hands[place]) for place, clock in enumerate(clocks)]


def mark_bounds(frame, here, deed):
    """Return the bounds of an event that follow from what a source says."""
    _, source, kind, said = deed
    _, early, late = frame.sources[source][2][kind]
    return from_to_later(START, here, said - early, said + late, frame.source_part(source))


def hear_bounds(frame, here, deed, kind):
    """Return the bounds of an event that hears a word; kind is None for a word that was told."""
    _, link, number = deed
    sending = event_point((frame.links[link][1], number))
    bounds = [at_least_later(sending, here, 0, NO_PART)]
    if kind is not None:
        _, least, most = frame.links[link][3][kind]
        part = frame.link_part(link)
        bounds.append(at_least_later(sending, here, least, part))
        if most is not None:
            bounds.append((sending, here, most, part))
    return bounds


def event_bounds(frame, record, hands, kind):
    """Return the bounds of a record, and the hands of its device's clocks after it.

    The record's number is at least 1; hands are those before it; kind is the kind of the sent word that is heard,
    otherwise None.
    """
    device, number, event = record
    here = event_point((device, number))
    deed = event[3]
    bounds = [at_least_later(event_point((device, number - 1)), here, 0, NO_PART)]
    for place, clock in enumerate(frame.clocks_of(device)):
        bounds.extend(clock_bounds(frame, record, clock, place, hands[place]))
    if deed[0] == "mark":
        bounds.extend(mark_bounds(frame, here, deed))
    elif deed[0] == "hear":
        bounds.extend(hear_bounds(frame, here, deed, kind))
    return bounds, hands_after(frame, record, hands)


def heard_kind(frame, view, deed):
    """Return the kind of the word that is heard; None if it was told, or the deed hears none."""
    if deed[0] != "hear":
        return None
    sender = frame.links[deed[1]][1]
    sending = view[sender][deed[2]][3]
    return sending[2] if sending[0] == "send" else None


def view_bounds(frame, view):
    """Return the list of the bounds of a view."""
    bounds = []
    for device, events in enumerate(view):
        hands = first_hands(frame, device)
        for number in range(1, len(events)):
            kind = heard_kind(frame, view, events[number][3])
            more, hands = event_bounds(frame, (device, number, events[number]), hands, kind)
            bounds.extend(more)
    return bounds
