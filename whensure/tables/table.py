"""Tables of the distances between points."""


def is_nearer(amount, distance):
    """Tell if an amount is less than a distance; None is no distance."""
    return distance is None or amount < distance


class Table:
    """Points, and the distances between any two of them by all bounds that were put in so far."""

    def __init__(self):
        # For each point its place in the rows; the points are in the order in which they were added.
        self._places = {}
        # For each point the row of the distances from it to each point, None where there is none.
        self._rows = []
        self._possible = True

    @property
    def points(self):
        """The list of the points, in order."""
        return list(self._places)

    @property
    def possible(self):
        """False if the bounds became impossible."""
        return self._possible

    def add_point(self, point):
        """Add a point that is not in the table yet."""
        for row in self._rows:
            row.append(None)
        self._rows.append([None] * len(self._rows) + [0])
        self._places[point] = len(self._places)

    def put_bound(self, first, second, amount):
        """Put in that the second point is at most amount later than the first; return if the table is possible."""
        start = self._places[first]
        end = self._places[second]
        back = self._rows[end][start]
        if back is not None and back + amount < 0:
            self._possible = False
        elif is_nearer(amount, self._rows[start][end]):
            self._shorten(start, end, amount)
        return self._possible

    def _shorten(self, start, end, amount):
        """Shorten all distances by a bound that is less than the distance between its own points."""
        # A point can come nearer to another one only where the first of them comes nearer to the bound's end, and the
        # bound's start to the second of them. So only those are looked at.
        reach = self._rows[start]
        onward = []
        for place, rest in enumerate(self._rows[end]):
            if rest is not None and is_nearer(amount + rest, reach[place]):
                onward.append((place, amount + rest))
        for row in self._rows:
            ahead = row[start]
            if ahead is not None and is_nearer(ahead + amount, row[end]):
                for place, rest in onward:
                    if row[place] is None or ahead + rest < row[place]:
                        row[place] = ahead + rest

    def distance(self, first, second):
        """Return the distance from the first point to the second one, or None."""
        return self._rows[self._places[first]][self._places[second]]

    def keep_points(self, points):
        """Remove all points that are not in the list; the distances between the others stay."""
        wanted = set(points)
        kept = [point for point in self._places if point in wanted]
        places = [self._places[point] for point in kept]
        self._rows = [[self._rows[start][end] for end in places] for start in places]
        self._places = {point: place for place, point in enumerate(kept)}

    def time_of(self, point):
        """Return the time of a point: the least of 0 and of all distances to it."""
        place = self._places[point]
        return min([row[place] for row in self._rows if row[place] is not None])

    def fork(self):
        """Return a new table that is equal and independent."""
        table = table_with(self.points, self._rows)
        table._possible = self._possible
        return table


def table_with(points, rows):
    """Return a possible table with these points and these distances, which must be least sums."""
    table = Table()
    table._places = {point: place for place, point in enumerate(points)}
    table._rows = [list(row) for row in rows]
    return table
