"""The numbers of a view's points and bounds, by which papers name them."""

from whensure.bounds.bounds import view_bounds
from whensure.bounds.points import event_point


def point_numbers(bounds, first, second):
    """Return a dict of the numbers of the points: first and second are asked about, the others stand in bounds."""
    numbers = {first: 0}
    # If both are the same point, the number 1 is that of no point.
    numbers.setdefault(second, 1)
    following = 2
    for bound in bounds:
        for point in bound[:2]:
            if point not in numbers:
                numbers[point] = following
                following += 1
    return numbers


class Question:
    """Two events of a view that are asked about, with the bounds of the view and the numbers of its points."""

    def __init__(self, frame, view, first, second):
        self.first = event_point(first)
        self.second = event_point(second)
        self.bounds = view_bounds(frame, view)
        self.numbers = point_numbers(self.bounds, self.first, self.second)
