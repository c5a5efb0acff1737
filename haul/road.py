"""What is told of a road: its stations, their earth and their pits, and what a step costs."""

# One below the least price: one more than it is the 0 that tells of no pit.
NO_PIT = -1


class Road:
    """A road with no stations is one that has not begun."""

    def __init__(self):
        self.lay(0, 0)

    def lay(self, stations, step_cost):
        self.stations = stations
        self.step_cost = step_cost
        self.had = [0] * stations
        self.needed = [0] * stations
        self.borrow_prices = [NO_PIT] * stations
        self.spoil_prices = [NO_PIT] * stations

    def twin(self):
        """Another road of which the same is told, to ask what would be if it were changed."""
        other = Road()
        other.stations = self.stations
        other.step_cost = self.step_cost
        other.had = list(self.had)
        other.needed = list(self.needed)
        other.borrow_prices = list(self.borrow_prices)
        other.spoil_prices = list(self.spoil_prices)
        return other

    def surplus(self, i):
        """What station i has beyond its need, below 0 where it lacks."""
        return self.had[i] - self.needed[i]

    def has_way(self):
        """Any pit does: earth can be hauled between any two stations."""
        over = sum(self.had) - sum(self.needed)
        if over > 0:
            return max(self.spoil_prices) > NO_PIT
        if over < 0:
            return max(self.borrow_prices) > NO_PIT
        return True
