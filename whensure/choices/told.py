"""What is told of two points: by how much one can be later than the other."""

from whensure.bounds.bounds import view_bounds
from whensure.bounds.points import event_point
from whensure.choices.choices import all_choices, possible_tables
from whensure.choices.stretches import join_stretches, stretch_of
from whensure.errors import NotKept
from whensure.frame.frame import BEGINNING


def told_between(bounds, choices, first, second):
    """Return the list of joined stretches of how much later the second point can be than the first one."""
    tables = possible_tables(bounds, choices, [first, second])
    return join_stretches([stretch_of(table, first, second) for _, table in tables])


def is_in_view(view, event):
    """Tell if an event is in a view; the beginning always is."""
    device, number = event
    if event == BEGINNING:
        return True
    return 0 <= device < len(view) and 0 <= number < len(view[device])


def check_in_view(view, events):
    """Raise NotKept unless all of the events are in a view."""
    if not all([is_in_view(view, event) for event in events]):
        raise NotKept()


def view_between(frame, view, first, second):
    """Return the list of told_between for two events of a view. Raise NotKept if one is not in the view."""
    check_in_view(view, [first, second])
    choices = all_choices(frame.part_count, frame.faults)
    return told_between(view_bounds(frame, view), choices, event_point(first), event_point(second))
