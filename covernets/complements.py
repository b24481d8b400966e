"""The markings outside of a closed set, and those that no limit of a list admits (point 10)."""

from covernets.closed import basis_of, in_closed
from covernets.limits import admits, frame_of, limit_in


def complement_closed(members, size):
    """Return the frame of the markings of this size that are not in the closed set of the members."""
    frame = [(-1,) * size]
    for member in basis_of(members):
        frame = _without_member(frame, member)
    return sorted(frame)


def _without_member(frame, member):
    """Return the greatest limits within those of the frame that do not admit the member."""
    kept = [limit for limit in frame if not admits(limit, member)]
    lowered = []
    for limit in frame:
        if admits(limit, member):
            lowered.extend(_lowered(limit, member))
    # What was kept is within none of the lowered limits: those are within other limits of the frame.
    return kept + [limit for limit in frame_of(lowered) if not limit_in(limit, kept)]


def _lowered(limit, member):
    """Return the limits that are lowered at one place such that they do not admit the member."""
    return [_with(limit, place, member[place] - 1) for place in range(len(limit)) if member[place] > 0]


def _with(row, place, number):
    """Return the row with another number at the place."""
    return row[:place] + (number,) + row[place + 1:]


def complement_frame(limits, size):
    """Return the basis of the markings of this size that no limit of the list admits."""
    basis = [(0,) * size]
    for limit in frame_of(limits):
        basis = _without_limit(basis, limit)
    return sorted(basis)


def _without_limit(basis, limit):
    """Return the least markings that cover one of the basis and that the limit does not admit."""
    kept = [member for member in basis if not admits(limit, member)]
    raised = []
    for member in basis:
        if admits(limit, member):
            raised.extend(_raised(member, limit))
    return kept + [member for member in basis_of(raised) if not in_closed(kept, member)]


def _raised(member, limit):
    """Return the markings that are raised at one place such that the limit does not admit them."""
    return [_with(member, place, limit[place] + 1) for place in range(len(member)) if limit[place] != -1]
