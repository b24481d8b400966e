"""Shortest ways to goals, and how long they are (point 49)."""

from covernets.backward import alone, silent
from covernets.distances import Layers, shortest_run


def distance(net, goals, marking):
    """Return the distance of the marking from the goals, or None if no run leads into their closed set."""
    run = shortest_way(net, goals, marking)
    return None if run is None else len(run)


def shortest_way(net, goals, marking):
    """Return the shortest way, a list, from the marking into the closed set of the goals, or None."""
    layers = Layers(net, silent(net), alone(goals), ())
    return shortest_run(layers, (tuple(marking), ()))
