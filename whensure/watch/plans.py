"""Plans: deeds that are done as soon as enough clocks have come to given numbers."""

from whensure.bounds.bounds import NO_PART, at_least_later, from_to_later
from whensure.bounds.points import event_point
from whensure.choices.stretches import stretch_of

MOST_CLOCKS = 4


def is_plan(frame, device, shown, plan, count):
    """Tell if a plan, each clock of which is one of the device, can be asked about with this count."""
    clocks = frame.clocks_of(device)
    if not 1 <= len(plan) <= MOST_CLOCKS or not 1 <= count <= len(plan):
        return False
    if len(set([clock for clock, _ in plan])) < len(plan):
        return False
    return all([number > shown[clocks.index(clock)] for clock, number in plan])


def coming_point(now, clock):
    """Return the point of the coming of a clock: the tick that it would have at the next event."""
    device, number, _ = now.point
    return (device, number + 1, clock)


def coming_bounds(frame, now, clock, number, awake):
    """Return the list of the bounds of the coming of a clock to a number."""
    _, device, goes_on, kinds = frame.clocks[clock]
    coming = coming_point(now, clock)
    bounds = [at_least_later(now.point, coming, 0, NO_PART)]
    if awake or goes_on:
        since, shown, kind = now.hands[frame.clocks_of(device).index(clock)]
        _, low, high = kinds[kind]
        gained = number - shown
        bounds.extend(from_to_later(since, coming, low * gained, high * gained, clock))
        bounds.append(at_least_later(now.point, coming, low * (gained - 1), clock))
    return bounds


def end_at(ends, count, missing_first):
    """Return the end at a place, counted from 1, in ascending order; missing ones are below or above all others."""
    numbers = sorted([end for end in ends if end is not None])
    missing = [None] * (len(ends) - len(numbers))
    ordered = missing + numbers if missing_first else numbers + missing
    return ordered[count - 1]


def stretch_done(table, start, comings, count):
    """Return the stretch, by one table, of how much later than a point so many of the comings have come."""
    stretches = [stretch_of(table, start, coming) for coming in comings]
    earliest = end_at([least for least, _ in stretches], count, True)
    return (earliest, end_at([greatest for _, greatest in stretches], count, False))


def plan_stretch(frame, now, plan, count, event, awake):
    """Return the stretch of how much later than the event the deed of a plan is done; the tables of now change."""
    bounds = []
    for clock, number in plan:
        bounds.extend(coming_bounds(frame, now, clock, number, awake))
    now.tables.put_bounds(bounds)
    start = event_point(event)
    comings = [coming_point(now, clock) for clock, _ in plan]
    done = [stretch_done(table, start, comings, count) for _, table in now.tables.pairs]
    least = [end for end, _ in done]
    greatest = [end for _, end in done]
    if not done:
        return (None, None)
    return (None if None in least else min(least), None if None in greatest else max(greatest))
