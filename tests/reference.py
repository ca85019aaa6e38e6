"""Distances, times and possible differences, found in other ways than the program finds them."""


def named_in(bounds):
    """Return the points that bounds name, each once."""
    return list(dict.fromkeys(point for bound in bounds for point in bound[:2]))


def distances_of(points, bounds):
    """Return a dict of the distances between points, or None if some ring is below 0: each point in turn as a stop."""
    found = {(point, point): 0 for point in points}
    for first, second, amount, *_ in bounds:
        found[first, second] = min(found.get((first, second), amount), amount)
    for stop in points:
        for first in points:
            if (first, stop) in found:
                for second in points:
                    if (stop, second) in found:
                        amount = found[first, stop] + found[stop, second]
                        found[first, second] = min(found.get((first, second), amount), amount)
    return found if all(found[point, point] >= 0 for point in points) else None


def can_be_later(bounds, first, second, number):
    """Tell if there are instants that meet all bounds, with the second point this much later than the first one."""
    pinned = [*bounds, (first, second, number), (second, first, -number)]
    points = named_in(pinned)
    instants = dict.fromkeys(points, 0)
    for _ in range(len(points) + 1):
        changed = False
        for start, end, amount, *_ in pinned:
            if instants[end] > instants[start] + amount:
                instants[end] = instants[start] + amount
                changed = True
        if not changed:
            return True
    return False
