"""Transitions of plain nets that can go on for ever from a limit, and loops that prove it (points 46 and 47)."""

from covernets.growth import growth
from covernets.limits import admits
from covernets.loops import lasting_parts, lasting_run
from covernets.nets import check_plain
from covernets.runs import need

# So many limits are looked at before great numbers of the limit are taken for any number.
FEW_LIMITS = 200

# Numbers of the limit from this one on are taken for any number then, as it seldom matters how great they are;
# where it does, only those from a number on that is so many times as great.
GREAT = 8
TIMES_GREATER = 8


def forever(net, limit):
    """Return the list of the transitions that can go on for ever from the limit."""
    check_plain(net)
    sure = {}
    for blurred, most in _stages(limit):
        parts = lasting_parts(net, blurred, most)
        if parts is None:
            continue
        found = {index: True for part in parts for index in part.fired()}
        if blurred == limit:
            return sorted(found)
        for index in found:
            loop = None if index in sure else _loop_from(net, limit, blurred, parts, index)
            if loop is not None:
                sure.update({other: True for other in loop[2]})
        # What is not found from a greater limit cannot go on for ever.
        if len(sure) == len(found):
            break
    return sorted(sure)


def always_ends(net, limit):
    """Return True if the net always ends from the limit, otherwise False."""
    return forever(net, limit) == []


def loop_for(net, limit, index):
    """Return a loop (marking, parts, run) for the transition, or None if it cannot go on for ever."""
    check_plain(net)
    loop = None
    for blurred, most in _stages(limit):
        parts = lasting_parts(net, blurred, most)
        if parts is not None:
            parts = [part for part in parts if index in part.fired()]
            loop = _loop_from(net, limit, blurred, parts, index)
            if loop is not None or not parts:
                break
    return loop


def _stages(limit):
    """Return the list of pairs of a limit and of how many limits are looked at for it, None if as many as there are.

    They are the limit itself, those with -1 instead of great numbers, fewer and fewer, and the limit again.
    """
    stages = [(tuple(limit), FEW_LIMITS)]
    great = GREAT
    while great <= max(limit):
        stages.append((tuple([-1 if number >= great else number for number in limit]), None))
        great = great * TIMES_GREATER
    return stages + [(tuple(limit), None)]


def _loop_from(net, limit, blurred, parts, index):
    """Return a loop for the transition in one of the parts from the blurred limit, or None.

    Its marking is admitted by the limit, too. If the limit is not blurred, there is a loop in each such part.
    """
    for part in parts:
        if index in part.fired():
            run = lasting_run(part, index)
            marking, before = growth(net, blurred, need(net, run), 0)
            if admits(limit, marking):
                return marking, before, run
    return None
