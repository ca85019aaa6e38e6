"""Stories that several tests tell: a frame with three devices, and records of what happens there."""

from whensure.frame.frame import Frame
from whensure.knowing.known import Known

# The links of the frame: from a to b (two of them), back, and between b and c.
AB, BA, BC, CB, TOO = range(5)


def three_frame(faults=0):
    """Return a frame with three devices, three clocks, five links and a source."""
    return Frame(
        ["a", "b", "c"],
        [
            ("p", 0, False, (("k", 9, 11), ("l", 1, 2))),
            ("q", 1, True, (("k", 10, 10),)),
            ("r", 1, False, (("k", 5, 6), ("l", 2, 2))),
        ],
        [
            ("ab", 0, 1, (("k", 0, 5), ("l", 2, None))),
            ("ba", 1, 0, (("k", 0, 5),)),
            ("bc", 1, 2, (("k", 1, 1),)),
            ("cb", 2, 1, (("k", 0, None),)),
            ("too", 0, 1, (("k", 3, 4),)),
        ],
        [("s", 0, (("k", 1, 2), ("l", 0, 0)))],
        faults,
    )


def shown_by(known, device, number=0):
    """Return what the device's clocks show if each shows this number."""
    return tuple(number for _ in known.frame.clocks_of(device))


def next_record(known, device, deed, number=0):
    """Return the record that a device can add with this deed, as far as its deed is possible."""
    shown = shown_by(known, device, number)
    return (device, known.counts[device], (False, shown, shown, deed, known.expected(device, deed)))


def put(known, device, *deeds):
    """Put a record for each of these deeds of a device, and return the number of the last one."""
    for deed in deeds:
        known.put_record(next_record(known, device, deed))
    return known.counts[device] - 1


def can_do(known, device, deed):
    """Tell if a record with this deed, and all else as it must be, can be put."""
    return known.can_put(next_record(known, device, deed))


def three_known(owner=0):
    """Return what a device of the frame knows at first."""
    return Known(three_frame(), owner)


def state_of(known):
    """Return all that can be asked of what a device knows, to be compared."""
    devices = range(len(known.frame.devices))
    links = range(len(known.frame.links))
    return (
        known.owner, list(known.counts), list(known.commits),
        [known.knows_of(device) for device in devices],
        [known.hands_of(device) for device in devices],
        [known.words(link) for link in links],
        [known.marks(link) for link in links],
        [known.kept_of(device) for device in devices],
    )


def watch_state(watch):
    """Return all that can be asked of a watch, and its tables, to be compared."""
    tables = [
        (choice, table.points, [[table.distance(first, second) for second in table.points] for first in table.points])
        for choice, table in watch.tables.pairs
    ]
    return (
        watch.device, watch.owes, watch.known_counts, watch.pins, watch.live, watch.choices, watch.surely_broken,
        state_of(watch.known), tables,
    )
