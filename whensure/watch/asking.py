"""Questions about now, and what is made of their stretches."""

from whensure.bounds.bounds import event_bounds
from whensure.bounds.points import event_point
from whensure.choices.stretches import greatest_of, holds_number, least_of


class Now:
    """The moment at which a watch's clocks show something: its point, and tables of its own that have it."""

    def __init__(self, known, tables, shown):
        device = known.owner
        number = known.counts[device]
        # Bounds do not depend on knows.
        record = (device, number, (False, shown, shown, ("note",), ()))
        bounds, self.hands = event_bounds(known.frame, record, known.hands_of(device), None)
        self.point = event_point((device, number))
        self.tables = tables.fork()
        self.tables.put_bounds(bounds)

    def since(self, event):
        """Return the list of stretches of how much later now is than the event."""
        return self.tables.stretches(event_point(event), self.point)


def order_of(stretches):
    """Return the list of the words for what numbers of joined stretches say of the order of two events."""
    words = []
    if any([greatest is None or greatest > 0 for _, greatest in stretches]):
        words.append("before")
    if holds_number(stretches, 0):
        words.append("at once")
    if any([least is None or least < 0 for least, _ in stretches]):
        words.append("after")
    return words


def farthest_from(stretches, number):
    """Return the greatest distance of a number of joined stretches from this number; None if there is no greatest."""
    least = least_of(stretches)
    greatest = greatest_of(stretches)
    if least is None or greatest is None:
        return None
    return max(abs(least - number), abs(greatest - number))


def all_at_least(stretches, number):
    """Tell if joined stretches have numbers, and all of them are at least this number."""
    least = least_of(stretches)
    return least is not None and least >= number


def all_at_most(stretches, number):
    """Tell if joined stretches have numbers, and all of them are at most this number."""
    greatest = greatest_of(stretches)
    return greatest is not None and greatest <= number
