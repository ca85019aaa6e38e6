"""Points of time."""

START = (-1, 0, -1)

# In place of a clock, in the points of events.
NO_CLOCK = -1


def event_point(event):
    """Return the point of an event that is given as a pair; START for BEGINNING."""
    device, number = event
    return (device, number, NO_CLOCK)
