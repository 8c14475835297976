"""The order in which the search decides variables."""

from heapq import heappop, heappush

# How much a conflict counts for a variable that takes part in it: one part of so many.
SHARE = 8
STRIDE = 1024


class Order:
    """Variables with weights, the heaviest first; its methods change it.

    The weight of a variable is a mean of the times of conflicts, in which late ones count most, and those in
    which the variable took no part count as the last one in which it did. So weights never have to shrink.
    """

    def __init__(self, count):
        self._now = 0
        self._weights = [0] * count
        # A variable can stand in the queue several times. What counts is the entry with the weight that is noted
        # here, or none if that one has been taken.
        self._queue = [(0, variable) for variable in range(count)]
        self._noted = [0] * count

    def reward(self, variables):
        """Makes heavier the variables that took part in a conflict."""
        self._now += STRIDE
        for variable in variables:
            self._weights[variable] += (self._now - self._weights[variable]) // SHARE

    def give_back(self, variables):
        """Takes in variables that can be decided again."""
        for variable in variables:
            weight = self._weights[variable]
            if self._noted[variable] != weight:
                self._noted[variable] = weight
                heappush(self._queue, (-weight, variable))

    def take(self):
        """Takes out the heaviest variable, perhaps one that cannot be decided now; returns None if there is none."""
        while self._queue:
            weight, variable = heappop(self._queue)
            if self._noted[variable] == -weight:
                self._noted[variable] = None
                return variable
        return None
