"""Courses of views: instants of all points, with some choice of parts broken."""

from whensure.bounds.bounds import NO_PART, from_to_later, view_bounds
from whensure.bounds.points import START, event_point
from whensure.choices.choice_tables import frame_choices
from whensure.choices.choices import bounds_left, points_named, table_of
from whensure.choices.told import check_in_view


def view_events(view):
    """Return the list of the events of a view, as pairs, device by device."""
    return [(device, number) for device, events in enumerate(view) for number in range(len(events))]


def view_points(frame, view):
    """Return the list of the points of a view: START, the events, the ticks in the order in which bounds name them."""
    events = [event_point(event) for event in view_events(view)]
    return points_named(view_bounds(frame, view), [START, *events])


def find_course(frame, view, first, second, number):
    """Return the choice and the instants of view_points of a course with second exactly this much later than first.

    Return None if there is no course. Raise NotKept if an event is not in the view.
    """
    check_in_view(view, [first, second])
    points = view_points(frame, view)
    bounds = view_bounds(frame, view)
    bounds.extend(from_to_later(event_point(first), event_point(second), number, number, NO_PART))
    for choice in frame_choices(frame):
        table = table_of(bounds_left(bounds, choice), points)
        if table.possible:
            zero = table.time_of(START)
            return choice, [table.time_of(point) - zero for point in points]
    return None
