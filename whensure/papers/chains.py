"""Tables of distances, each with the chain of bounds that makes it."""

from whensure.tables.table import is_nearer


class ChainTable:
    """For any two of some points the distance by all bounds that were put in, and a chain with this sum."""

    def __init__(self, numbered):
        # For each point a dict of the points to which a chain leads, with pairs of the distance and the chain. A chain
        # is None if it is empty, otherwise the tuple of the chain before its last-added bound, that one's number, and
        # the chain behind it: to join the lists of numbers would take too long.
        self.reached = {point: {point: (0, None)} for point in numbered}

    def distance_between(self, first, second):
        """Return the distance from the first point to the second one, or None."""
        cell = self.reached[first].get(second)
        return None if cell is None else cell[0]

    def chain_between(self, first, second):
        """Return the list of the numbers of the bounds of the chain from the first point to the second one, or None."""
        cell = self.reached[first].get(second)
        return None if cell is None else numbers_in(cell[1])

    def least_distances(self):
        """Return a dict of the times of the points: for each the least distance to it, which is at most 0."""
        least = {point: 0 for point in self.reached}
        for row in self.reached.values():
            for point, (distance, _) in row.items():
                if distance < least[point]:
                    least[point] = distance
        return least

    def put_numbered(self, number, bound):
        """Put in the bound with this number; return False, and change nothing, if it makes the bounds impossible."""
        first, second, amount, _ = bound
        back = self.distance_between(second, first)
        if back is not None and back + amount < 0:
            return False
        # A point can come nearer to another one only where the first of them comes nearer to the bound's end, and the
        # bound's start to the second of them. So only those are looked at.
        onward = []
        for point, (rest, chain) in self.reached[second].items():
            if is_nearer(amount + rest, self.distance_between(first, point)):
                onward.append((point, amount + rest, chain))
        if onward:
            for start, row in self.reached.items():
                ahead = row.get(first)
                if ahead is not None and is_nearer(ahead[0] + amount, self.distance_between(start, second)):
                    extend_row(row, ahead, number, onward)
        return True


def extend_row(row, ahead, number, onward):
    """Let a row reach the points behind a bound with this number, as far as the way by it is a shorter one.

    ahead is the distance and the chain up to the bound; onward are the points with the distances and chains from there.
    """
    distance, chain = ahead
    for point, rest, behind in onward:
        if point not in row or distance + rest < row[point][0]:
            row[point] = (distance + rest, (chain, number, behind))


def numbers_in(chain):
    """Return the list of the numbers of a chain's bounds, in order."""
    numbers = []
    # The parts that are still to come, the next one last.
    ahead = [chain]
    while ahead:
        part = ahead.pop()
        if isinstance(part, int):
            numbers.append(part)
        elif part is not None:
            before, number, behind = part
            ahead.extend([behind, number, before])
    return numbers
