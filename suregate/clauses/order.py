"""The order in which the search decides variables."""

from heapq import heappop, heappush

# The time from one conflict to the next, and the part of the way (one of so many) that a weight goes to a conflict.
STRIDE = 1024
SHARE = 8


class Order:
    """Variables with weights, the heaviest first; its methods change it.

    A conflict draws the weights of the variables that took part in it a part of the way to its own time. So weights
    only grow, and a variable that takes part in many late conflicts is heavier than one that took part in early ones.
    """

    def __init__(self, count):
        self._now = 0
        self._weights = [0] * count
        # A variable can stand in the queue several times. What counts is the entry with the weight that is noted
        # here, or none if that one has been taken.
        self._queue = [(0, variable) for variable in range(count)]
        self._noted = [0] * count

    def reward(self, variables):
        """Makes heavier the variables that took part in a conflict."""
        self._now += STRIDE
        for variable in variables:
            self._weights[variable] += (self._now - self._weights[variable]) // SHARE

    def give_back(self, variables):
        """Takes in variables that can be decided again."""
        for variable in variables:
            weight = self._weights[variable]
            if self._noted[variable] != weight:
                self._noted[variable] = weight
                heappush(self._queue, (-weight, variable))

    def take(self):
        """Takes out the heaviest variable, perhaps one that cannot be decided now; returns None if there is none."""
        while self._queue:
            weight, variable = heappop(self._queue)
            if self._noted[variable] == -weight:
                self._noted[variable] = None
                return variable
        return None
