"""Which deeds are possible, by what is known."""

from whensure.frame.items import (
    clock_has_kind,
    clocks_have_kinds,
    leads_from,
    leads_to,
    link_has_kind,
    source_has_kind,
)


def can_give_kind(known, device, deed):
    """Tell if the deed kind is possible."""
    return clock_has_kind(known.frame, device, deed[1], deed[2])


def can_mark(known, device, deed):
    """Tell if the deed mark is possible."""
    return source_has_kind(known.frame, device, deed[1], deed[2])


def can_send(known, device, deed):
    """Tell if the deed send is possible."""
    return link_has_kind(known.frame, device, deed[1], deed[2]) and not known.ways[deed[1]].sent_words()


def ways_back(known, link):
    """Return the list of the ways by the links from a link's receiver to its sender."""
    _, sender, receiver, _ = known.frame.links[link]
    return [
        way for other, way in zip(known.frame.links, known.ways) if other[1] == receiver and other[2] == sender
    ]


def is_answered(known, device, link, number):
    """Tell if a device can tell a word although its told word with this number is under way by the same link.

    It must have heard a told word after it told that one, and must not wait for one that it knows of.
    """
    ways = ways_back(known, link)
    heard = any([way.told_heard > number for way in ways])
    seen = known.knows_of(device)[known.frame.links[link][2]]
    awaited = any([word[0] < seen for way in ways for word in way.told_words()])
    return heard and not awaited


def can_tell(known, device, deed):
    """Tell if the deed tell is possible."""
    if not leads_from(known.frame, device, deed[1]):
        return False
    told = known.ways[deed[1]].told_words()
    return not told or (len(told) == 1 and is_answered(known, device, deed[1], told[0][0]))


def can_hear(known, device, deed):
    """Tell if the deed hear is possible."""
    return leads_to(known.frame, device, deed[1]) and known.ways[deed[1]].find_word(deed[2]) is not None


def can_promise(known, device, deed):
    """Tell if the deed promise is possible."""
    _, link, number = deed
    if not leads_to(known.frame, device, link):
        return False
    sender = known.frame.links[link][1]
    return known.ways[link].floor_of_sent < number <= known.counts[sender]


def can_begin_anew(known, device, deed):
    """Tell if the deed anew is possible."""
    return clocks_have_kinds(known.frame, device, deed[1])


# The deeds that are not named here are always possible.
CHECKS = {
    "kind": can_give_kind,
    "mark": can_mark,
    "send": can_send,
    "tell": can_tell,
    "hear": can_hear,
    "promise": can_promise,
    "anew": can_begin_anew,
}


def is_possible(known, device, deed):
    """Tell if a deed of a device is possible by what is known."""
    if deed[0] not in CHECKS:
        return True
    check = CHECKS[deed[0]]
    return check(known, device, deed)
