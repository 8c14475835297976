"""Ways to an and that share no allowed node, or a cut of allowed nodes which shows that there are not so many."""


def ways_or_cut(net, node, limit, size):
    """Returns "cut" and a cut of at most so many allowed nodes, or "ways" and one way more than that."""
    return found_ways_or_cut(way_sources(net), node, limit, size)


def found_ways_or_cut(sources, node, limit, size):
    """Returns what ways_or_cut does, given the sources of all nodes."""
    ways = SharedWays(sources, node, limit)
    for _ in range(size + 1):
        if not ways.add_way():
            return "cut", ways.cut()
    return "ways", ways.as_lists()


def way_sources(net):
    """Returns for each node the nodes from which a way can go on to it, those nearer to an input or latch first.

    An input or a latch has the sources None, for a way starts there.
    """
    far = net.node_count
    distances = [far] + [0] * (net.first_and - 1)
    sources = [[]] + [None] * (net.first_and - 1)
    for left, right in net.ands:
        nearest = sorted(set([(distances[literal // 2], literal // 2) for literal in (left, right)]))
        # No way comes from a node that hangs on the constant alone.
        nearest = [(distance, node) for distance, node in nearest if distance < far]
        distances.append(nearest[0][0] + 1 if nearest else far)
        sources.append([node for _, node in nearest])
    return sources


class SharedWays:
    """Ways to an and, such that no two of them share an allowed node; its methods of adding change it.

    A further way is looked for from the and backwards, by steps between sides of nodes: the front side of a node, to
    which its sources lead, is 2 * node, and the back side, which leads on to other nodes, is 2 * node + 1. A step
    against a way that is there already leads this way differently.
    """

    def __init__(self, sources, node, limit):
        self._sources = sources
        self._end = node
        self._limit = limit
        # For each node on a way: the nodes to which ways go on, with their numbers.
        self._followers = {}
        # The sides that were reached in the last search, each with the one from which it was reached.
        self._origins = {}

    def add_way(self):
        """Adds a way; returns False if there is no further one."""
        start = 2 * self._end
        self._origins = {start: None}
        waiting = [start]
        while waiting:
            side = waiting.pop()
            if side & 1 == 0 and self._sources[side // 2] is None:
                self._lead_along(side)
                return True
            # The first one is taken out first.
            for further in reversed(list(self._sides_before(side))):
                if further not in self._origins:
                    self._origins[further] = side
                    waiting.append(further)
        return False

    def cut(self):
        """Returns the nodes at which the last search ended, as a cut."""
        return tuple(sorted([
            side // 2 for side in self._origins if side & 1 == 1 and side ^ 1 not in self._origins]))

    def as_lists(self):
        """Returns the list of the ways."""
        sources = {}
        for node, followers in self._followers.items():
            for follower, count in followers.items():
                sources.setdefault(follower, []).extend([node] * count)
        ways = []
        for _ in range(len(sources[self._end])):
            way = [self._end]
            while self._sources[way[-1]] is not None:
                way.append(sources[way[-1]].pop())
            ways.append(way[::-1])
        return ways

    def _sides_before(self, side):
        """Returns the sides from which a way can go on to this one."""
        node = side // 2
        followers = self._followers.get(node, {})
        if side & 1 == 0:
            fronts = [2 * source + 1 for source in self._sources[node]]
            return fronts + [side + 1] if followers else fronts
        sides = [2 * follower for follower in followers]
        if not followers or not self._limit[node]:
            return [side - 1] + sides
        return sides

    def _lead_along(self, side):
        """Adds the way that the last search found, which begins at the front side of an input or latch."""
        following = self._origins[side]
        while following is not None:
            node = side // 2
            other = following // 2
            if node != other and side & 1 == 1:
                followers = self._followers.setdefault(node, {})
                followers[other] = followers.get(other, 0) + 1
            elif node != other:
                self._drop_step(other, node)
            side = following
            following = self._origins[side]

    def _drop_step(self, node, follower):
        """Takes out one way's step from a node to one that follows."""
        followers = self._followers[node]
        followers[follower] -= 1
        if followers[follower] == 0:
            del followers[follower]
