"""The line of pits and its hoist."""


class Line:
    """The limits of each pit, as pairs of least and most, and the times of the hoist."""

    def __init__(self, move_time, empty_time):
        self.pits = []
        self.move_time = move_time
        self.empty_time = empty_time

    def has_pit(self, pit):
        """Tell whether there is a pit of this number."""
        return 0 <= pit < len(self.pits)

    def twin(self):
        """Answer another line that is like this one, so that a change can be tried on it."""
        other = Line(self.move_time, self.empty_time)
        other.pits.extend(self.pits)
        return other

    def bound(self):
        """Answer the minutes below which no period has a feasible plan, whatever the stays."""
        bounds = [self.move_time + self.empty_time, (len(self.pits) + 1) * self.move_time]
        for least, most in self.pits:
            bounds.append(least + 2 * self.move_time + 2 * self.empty_time)
        return max(bounds)

    def reach(self, move, other):
        """Answer the minutes from the start of a move until the hoist can start the other one."""
        return self.move_time + self.empty_time * abs(other - (move + 1))
