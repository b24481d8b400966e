"""Limits of plain nets: firing them, limit sets, their judge, and bounds (points 19 to 21 and 23)."""

from heapq import heappop, heappush

from covernets.closed import Basis
from covernets.limits import limit_in, turned, within
from covernets.nets import check_plain
from covernets.plans import best_plan, has_great_numbers


class LimitNode:
    """A limit that was reached from the limit of the node before.

    The transition index leads from there to a limit with which each pump, a pair (run, limit), begins:
    its run is repeated without end from its limit, which makes places grow, one pump after the other.
    """

    def __init__(self, limit, before, index, pumps):
        self.limit = limit
        self.before = before
        self.index = index
        self.pumps = pumps
        self.rank = 0


class LimitTree:
    """The nodes that grow from a limit, until one has the goal within its limit or nothing is new.

    If most is given, the tree stops growing, too, when it has so many nodes; is_whole tells whether it has not.
    """

    def __init__(self, net, limit, goal, most=None):
        self.net = net
        self.goal = goal
        self.found = None
        self.basis = Basis([])
        self.greatest = {}
        self.nodes = []
        self.queue = []
        self.keep(LimitNode(tuple(limit), None, -1, []))
        while self.queue and self.found is None and (most is None or len(self.nodes) < most):
            _, at = heappop(self.queue)
            if turned(self.nodes[at].limit) in self.greatest:
                self.expand(self.nodes[at])
        self.is_whole = not self.queue

    def expand(self, node):
        """Add the nodes that one firing leads to."""
        for index, transition in enumerate(self.net.transitions):
            limit = limit_after(transition, node.limit)
            if limit is not None and self.found is None:
                self.keep(_grown(node, index, limit))

    def keep(self, node):
        """Add the node, if its limit is not within that of another one."""
        row = turned(node.limit)
        if self.basis.contains(row):
            return
        node.rank = len(self.nodes)
        for other in self.basis.include(row):
            # A node takes the turn of those that it replaces: else one that grows again and again would
            # never have its turn.
            node.rank = min(node.rank, self.greatest[other].rank)
            del self.greatest[other]
        self.greatest[row] = node
        heappush(self.queue, (node.rank, len(self.nodes)))
        self.nodes.append(node)
        if self.goal is not None and within(self.goal, node.limit):
            self.found = node


def _grown(before, index, limit):
    """Return the node for a limit that firing leads to, after all runs that make it grow."""
    pumps = []
    result = limit
    run = [index]
    node = before
    while node is not None:
        if within(node.limit, limit):
            larger = tuple([-1 if low < number else more for low, number, more in zip(node.limit, limit, result)])
            if larger != result:
                pumps.append((tuple(run[::-1]), result))
                result = larger
        # Limits from before a pump have numbers where this one has -1.
        if node.pumps:
            break
        run.append(node.index)
        node = node.before
    return LimitNode(result, before, index, pumps)


def fire_limit(net, index, limit):
    """Return the limit after firing the transition, or None if the limit does not enable it."""
    check_plain(net)
    return limit_after(net.transitions[index], limit)


def limit_after(transition, limit):
    """Return the limit after firing the transition of a plain net, or None."""
    takes, gives, _ = transition
    result = []
    for number, taken, given in zip(limit, takes, gives):
        if number == -1:
            result.append(-1)
        elif number < taken:
            return None
        else:
            result.append(number - taken + given)
    return tuple(result)


def limit_set(net, limit):
    """Return the limit set of a limit: the frame of all that reachable markings cover."""
    check_plain(net)
    return limits_of_tree(LimitTree(net, limit, None))


def limits_of_tree(tree):
    """Return the list of the greatest limits of the nodes of a tree, in ascending order."""
    return sorted([node.limit for node in tree.greatest.values()])


def judge_limits(net, limit, limits):
    """Return True if a judge takes the list of limits for the limit, otherwise False."""
    check_plain(net)
    if not limit_in(limit, limits):
        return False
    for other in limits:
        for transition in net.transitions:
            result = limit_after(transition, other)
            if result is not None and not limit_in(result, limits):
                return False
    return True


def bounds(net, limit):
    """Return the tuple of the bounds of all places: the greatest numbers, or -1 where there is none."""
    check_plain(net)
    places = list(range(net.places))
    if has_great_numbers(limit):
        known = [_planned_bound(net, limit, place) for place in places]
        if None not in known:
            return tuple(known)
    limits = limit_set(net, limit)
    return tuple([_greatest([other[place] for other in limits]) for place in places])


def _planned_bound(net, limit, place):
    """Return the bound of the place, or None if it is not known without the limit set."""
    most, reached = best_plan(net, limit, place)
    if reached == -1:
        return -1
    if most is None:
        goal = tuple([-1 if other == place else 0 for other in range(net.places)])
        return None if LimitTree(net, limit, goal).found is None else -1
    return most if most == reached else None


def _greatest(numbers):
    """Return the greatest one of some numbers of limits, where -1 is above all others."""
    return -1 if -1 in numbers else max(numbers)
