"""Clocks as they run in trials."""


class TrialClock:
    """A clock that gains a unit whenever as many instants have passed as its pace says."""

    def __init__(self, kinds):
        self.kinds = kinds
        self.number = 0
        self.begin_unit(0)

    def begin_unit(self, kind):
        """Begin a unit, and run by this kind."""
        _, low, high = self.kinds[kind]
        self.kind = kind
        self.pace = (low + high) // 2
        self.phase = 0

    def run(self, amount):
        """Run for so many instants."""
        passed = self.phase + amount
        self.number += passed // self.pace
        self.phase = passed % self.pace

    def show(self, number):
        """Show a number, to which it comes just now."""
        self.number = number
        self.phase = 0

    def allows(self, pace):
        """Tell if the kind by which the clock runs allows a pace."""
        _, low, high = self.kinds[self.kind]
        return low <= pace <= high

    def change_pace(self, pace):
        """Take this many instants for a unit from now on, also for the one that runs."""
        self.pace = pace
        if self.phase >= pace:
            self.show(self.number + 1)
