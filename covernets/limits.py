"""Limits and the sets of markings that lists of limits admit (points 8 and 9)."""

from covernets.closed import Basis


def admits(limit, marking):
    """Return True if the limit admits the marking, otherwise False."""
    for most, number in zip(limit, marking):
        if most != -1 and number > most:
            return False
    return True


def within(first, second):
    """Return True if the first limit is within the second one, otherwise False."""
    for number, most in zip(first, second):
        if most != -1 and (number == -1 or number > most):
            return False
    return True


def in_frame(limits, marking):
    """Return True if one of the limits admits the marking, otherwise False."""
    for limit in limits:
        if admits(limit, marking):
            return True
    return False


def limit_in(limit, limits):
    """Return True if the limit is within one of the limits, otherwise False."""
    for other in limits:
        if within(limit, other):
            return True
    return False


def frame_of(limits):
    """Return the frame of the markings that a list of limits admits, in ascending order."""
    rows = {turned(limit): limit for limit in limits}
    return sorted([rows[row] for row in Basis(list(rows)).members])


def turned(limit):
    """Return a row for a Basis: the rows that cover it are those of the limits within this limit."""
    return tuple([(0, 0) if most == -1 else (1, -most) for most in limit])


def frame_meet(first, second):
    """Return the frame of the markings that both of two lists of limits admit."""
    return frame_of([_common(one, other) for one in frame_of(first) for other in frame_of(second)])


def _common(one, other):
    """Return the limit that admits what both limits admit."""
    return tuple([_lesser(most, bound) for most, bound in zip(one, other)])


def _lesser(most, bound):
    """Return the lesser one of two numbers of limits, where -1 is above all others."""
    if most == -1:
        return bound
    if bound == -1:
        return most
    return min(most, bound)


def frame_within(first, second):
    """Return True if the second list of limits admits each marking that the first one admits, otherwise False."""
    for limit in first:
        if not limit_in(limit, second):
            return False
    return True
