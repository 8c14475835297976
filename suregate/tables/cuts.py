"""Cuts of ands."""

from itertools import combinations

from suregate.errors import InvalidCount, TooHard

MOST_CUTS = 500
GREATEST_SIZE = 6


def cuts_of(net, size):
    """Returns for each and the list of its cuts with at most so many nodes, in order."""
    if size < 1 or size > GREATEST_SIZE:
        raise InvalidCount("a size is from 1 to 6")
    answers = []
    # For each node the sets of nodes that cut it off and of which no part does.
    sets = [[()]] + [[(node,)] for node in range(1, net.first_and)]
    for node, (left, right) in enumerate(net.ands, start=net.first_and):
        cuts = _least_sets(_unions(sets[left // 2], sets[right // 2], size))
        answers.append(cuts)
        sets.append(cuts + [(node,)])
    return answers


def _unions(left_sets, right_sets, size):
    """Returns the unions of one set of each list that have at most so many nodes, fewer nodes first, in order."""
    unions = {}
    for left in left_sets:
        for right in right_sets:
            union = set(left + right)
            if len(union) <= size:
                unions[tuple(sorted(union))] = True
    return [nodes for _, nodes in sorted([(len(nodes), nodes) for nodes in unions])]


def _least_sets(sets):
    """Returns the sets of which no part is among them; sets with fewer nodes stand first."""
    found = {}
    for nodes in sets:
        if not _has_part_in(nodes, found):
            if len(found) == MOST_CUTS:
                raise TooHard("an and has too many cuts")
            found[nodes] = True
    return list(found)


def _has_part_in(nodes, found):
    """Tells whether a proper subset of the nodes is among the found sets."""
    members = list(nodes)
    for count in range(len(members)):
        for part in combinations(members, count):
            if part in found:
                return True
    return False
