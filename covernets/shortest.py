"""Shortest ways to goals, and how long they are (point 49)."""

from covernets.backward import alone, silent
from covernets.distances import Layers, shortest_run
from covernets.nets import after_firing, is_plain
from covernets.plans import least_firings

# Ways that are not longer are searched for without plans.
SHORT = 8


def distance(net, goals, marking):
    """Return the distance of the marking from the goals, or None if no run leads into their closed set."""
    known, away = _planned_distance(net, goals, marking)
    if known:
        return away
    run = shortest_way(net, goals, marking)
    return None if run is None else len(run)


def shortest_way(net, goals, marking):
    """Return the shortest way, a list, from the marking into the closed set of the goals, or None."""
    known, away = _planned_distance(net, goals, marking)
    if known and away is None:
        return None
    run = _planned_way(net, goals, tuple(marking), away) if known and away > SHORT else None
    if run is None:
        run = shortest_run(Layers(net, silent(net), alone(goals), ()), (tuple(marking), ()))
    return run


def _planned_distance(net, goals, marking):
    """Return a pair: True if plans tell the distance, otherwise False; and what is at least the distance, or None."""
    if not is_plain(net):
        return False, 0
    plans = [least_firings(net, marking, goal) for goal in goals]
    bounds = [(least, parts is None) for least, parts in plans if least is not None]
    if not bounds:
        return True, None
    # What can be done with as few firings as there have to be cannot be done with less.
    away, missed = min(bounds)
    return not missed, away


def _planned_way(net, goals, marking, away):
    """Return the shortest way of a plain net from a marking that is so far away, or None if plans do not tell."""
    run = []
    while away > 0:
        away -= 1
        index = _planned_step(net, goals, marking, away)
        if index is None:
            return None
        run.append(index)
        marking = after_firing(net.transitions[index], marking)
    return run


def _planned_step(net, goals, marking, away):
    """Return the first transition to a marking that is so far away, which is the least there is, or None."""
    for index, transition in enumerate(net.transitions):
        after = after_firing(transition, marking)
        if after is not None:
            known, left = _planned_distance(net, goals, after)
            if left is not None and left <= away:
                return index if known else None
    return None
