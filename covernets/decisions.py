"""Decisions whether goals can be covered from some start marking, and their judges (points 16 to 18)."""

from covernets.backward import cover_basis, predecessors, way
from covernets.closed import Basis, in_closed
from covernets.errors import NotEnabled
from covernets.runs import run_from


class Decision:
    """Whether a run leads to the goals, the least count and its run if so, and the barrier."""

    def __init__(self, reachable, count, run, barrier):
        self.reachable = reachable
        self.count = count
        self.run = None if run is None else tuple(run)
        self.barrier = tuple([tuple(marking) for marking in barrier])


def decide(net, start, goals):
    """Return the decision on a net, a start and some goals."""
    barrier = cover_basis(net, goals)
    count = least_count(start, barrier)
    if count is None:
        return Decision(False, None, None, barrier)
    return Decision(True, count, way(net, goals, start_marking(start, count)), barrier)


def start_marking(start, count):
    """Return the start marking with this count, which is allowed."""
    base, free = start
    return tuple([number + count if place == free else number for place, number in enumerate(base)])


def least_count(start, members):
    """Return the least count whose start marking is in the closed set of the members, or None."""
    base, free = start
    least = None
    for member in members:
        lacking = [place for place, number in enumerate(member) if number > base[place]]
        if lacking == [] or lacking == [free]:
            count = sum([member[place] - base[place] for place in lacking])
            least = count if least is None else min(least, count)
    return least


def judge_barrier(net, start, goals, barrier):
    """Return True if a judge takes the list of markings as a barrier, otherwise False."""
    known = Basis(barrier)
    for goal in goals:
        if not known.contains(goal):
            return False
    for member in barrier:
        for transition in net.transitions:
            if predecessors(transition, member, known, True):
                return False
    return least_count(start, barrier) is None


def judge_run(net, start, goals, count, run):
    """Return True if the count is allowed and the run leads from its start marking to the goals, else False."""
    _, free = start
    if count < 0 or (free == -1 and count > 0):
        return False
    try:
        return in_closed(goals, run_from(net, start_marking(start, count), run))
    except NotEnabled:
        return False
