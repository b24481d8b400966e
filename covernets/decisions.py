"""Decisions whether goals can be covered from some start marking, and their judges (points 16 to 18)."""

from covernets.backward import cover_basis, way
from covernets.closed import Basis, closed_within, in_closed
from covernets.complements import complement_closed
from covernets.errors import NotEnabled
from covernets.limits import admits
from covernets.nets import count_predecessors, predecessors
from covernets.runs import run_from

# The markings one firing before a barrier are listed if they are not more than this.
MANY = 100000


class Decision:
    """Whether a run leads to the goals, the least count and its run if so, and the barrier."""

    def __init__(self, reachable, count, run, barrier):
        self.reachable = reachable
        self.count = count
        self.run = None if run is None else tuple(run)
        self.barrier = tuple([tuple(marking) for marking in barrier])


def decide(net, start, goals):
    """Return the decision on a net, a start and some goals."""
    barrier = cover_basis(net, goals)
    count = least_count(start, barrier)
    if count is None:
        return Decision(False, None, None, barrier)
    return Decision(True, count, way(net, goals, start_marking(start, count)), barrier)


def start_marking(start, count):
    """Return the start marking with this count, which is allowed."""
    base, free = start
    return tuple([number + count if place == free else number for place, number in enumerate(base)])


def least_count(start, members):
    """Return the least count whose start marking is in the closed set of the members, or None."""
    base, free = start
    least = None
    for member in members:
        lacking = [place for place, number in enumerate(member) if number > base[place]]
        if lacking == [] or lacking == [free]:
            count = sum([member[place] - base[place] for place in lacking])
            least = count if least is None else min(least, count)
    return least


def judge_barrier(net, start, goals, barrier):
    """Return True if a judge takes the list of markings as a barrier, otherwise False."""
    if not closed_within(goals, barrier) or least_count(start, barrier) is not None:
        return False
    if are_many_before(net.transitions, barrier):
        return outside_leads_outside(net.transitions, barrier, barrier)
    return step_back_within(net.transitions, Basis(barrier), barrier)


def are_many_before(transitions, members):
    """Return True if the least markings one firing before the members are too many to be listed, otherwise False."""
    return sum([count_predecessors(step, member, True) for member in members for step in transitions]) > MANY


def step_back_within(transitions, known, members):
    """Return True if all markings one firing before the members cover one of the known basis, otherwise False."""
    for member in members:
        for transition in transitions:
            if predecessors(transition, member, known, True):
                return False
    return True


def outside_leads_outside(transitions, before, after):
    """Return True if no firing leads from outside the closed set before into that after, which has a member."""
    for limit in complement_closed(before, len(after[0])):
        for transition in transitions:
            result = _most_after(transition, limit)
            if result is not None and _admits_some(result, after):
                return False
    return True


def _admits_some(limit, markings):
    """Return True if the limit admits one of the markings, otherwise False."""
    for marking in markings:
        if admits(limit, marking):
            return True
    return False


def _most_after(transition, limit):
    """Return the limit of what firing leads to from the markings that the limit admits, or None if nothing."""
    takes, gives, moves = transition
    result = list(gives)
    for place, number in enumerate(limit):
        target = moves[place]
        if number != -1 and number < takes[place]:
            return None
        if target != -1:
            endless = number == -1 or result[target] == -1
            result[target] = -1 if endless else result[target] + number - takes[place]
    return tuple(result)


def judge_run(net, start, goals, count, run):
    """Return True if the count is allowed and the run leads from its start marking to the goals, else False."""
    _, free = start
    if count < 0 or (free == -1 and count > 0):
        return False
    try:
        return in_closed(goals, run_from(net, start_marking(start, count), run))
    except NotEnabled:
        return False
