"""Runs, as lists of parts, that make places of plain nets grow as far as they can (point 22)."""

from covernets.forward import LimitTree
from covernets.nets import check_plain
from covernets.plans import has_great_numbers, plan_to
from covernets.runs import need_and_effect


def growth(net, limit, goal, number):
    """Return a marking that the limit admits, and parts that lead from it to the goal, or None.

    They lead to a marking that covers what the goal becomes if each -1 is replaced by the number.
    """
    check_plain(net)
    wanted = tuple([number if most == -1 else most for most in goal])
    if has_great_numbers(limit):
        possible, parts = plan_to(net, limit, goal)
        if not possible:
            return None
        if parts is not None:
            return _least_start(net, parts, wanted), _joined(parts)
    node = LimitTree(net, limit, goal).found
    if node is None:
        return None
    return _way_to(net, node, wanted)


def longest_reach(net, limit, place, number):
    """Return a pair as growth does, whose parts lead to so many tokens in the place, or None."""
    goal = [0] * net.places
    goal[place] = max(0, number)
    return growth(net, limit, tuple(goal), 0)


def _least_start(net, parts, wanted):
    """Return the least marking from which the parts can be fired and lead to what is wanted."""
    for run, times in parts[::-1]:
        least, change = need_and_effect(net, run)
        wanted = _wanted_before(least, change, times, wanted)
    return wanted


def _way_to(net, node, wanted):
    """Return the least marking and the parts with which the path to the node leads to what is wanted."""
    # The path is walked backward: what is wanted behind a part tells how often it is repeated.
    parts = []
    while node is not None:
        for run, limit in node.pumps[::-1]:
            least, change = need_and_effect(net, run)
            times = _times(limit, change, wanted)
            if times > 0:
                parts.append((run, times))
                wanted = _wanted_before(least, change, times, wanted)
        if node.before is not None:
            run = (node.index,)
            parts.append((run, 1))
            least, change = need_and_effect(net, run)
            wanted = _wanted_before(least, change, 1, wanted)
        node = node.before
    return wanted, _joined(parts[::-1])


def _times(limit, change, wanted):
    """Return how often a run is repeated so that the places that it makes grow have what is wanted."""
    times = 0
    for most, step, number in zip(limit, change, wanted):
        if most != -1 and step > 0:
            times = max(times, -((most - number) // step))
    return times


def _wanted_before(least, change, times, wanted):
    """Return the least marking from which the run can be fired so many times and leads to what is wanted."""
    before = []
    for low, step, number in zip(least, change, wanted):
        before.append(max(low, low - (times - 1) * step, number - times * step))
    return tuple(before)


def _joined(parts):
    """Return the parts, with those joined that can be written as one part."""
    joined = []
    for run, times in parts:
        last, before = joined[-1] if joined else ((), 0)
        if run == last:
            joined[-1] = (run, times + before)
        elif times == 1 and before == 1:
            joined[-1] = (last + run, 1)
        else:
            joined.append((run, times))
    return joined
