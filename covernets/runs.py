"""Runs of nets, and lists of parts that repeat runs (points 13 and 14)."""

from covernets.closed import covers
from covernets.errors import NotEnabled
from covernets.nets import after_firing, check_plain


def run_from(net, marking, run):
    """Return the marking after the run; raise NotEnabled with the index in the run."""
    current = tuple(marking)
    for position, index in enumerate(run):
        result = after_firing(net.transitions[index], current)
        if result is None:
            raise NotEnabled(position)
        current = result
    return current


def need_and_effect(net, run):
    """Return the pair of the need and the effect of a run; the caller ensures that the net is plain."""
    least = [0] * net.places
    change = [0] * net.places
    for index in run:
        takes, gives, _ = net.transitions[index]
        for place in range(net.places):
            least[place] = max(least[place], takes[place] - change[place])
            change[place] += gives[place] - takes[place]
    return tuple(least), tuple(change)


def need(net, run):
    """Return the need of a run: the least marking from which it can be fired."""
    check_plain(net)
    least, _ = need_and_effect(net, run)
    return least


def effect(net, run):
    """Return the effect of a run: the changes of all places."""
    check_plain(net)
    _, change = need_and_effect(net, run)
    return change


def effects(net):
    """Return the list of the effects of all transitions; raise NotPlain if the net is not plain."""
    check_plain(net)
    return [need_and_effect(net, (index,))[1] for index in range(len(net.transitions))]


def fire_parts(net, marking, parts):
    """Return the marking after a list of parts; raise NotEnabled with the index of the part."""
    check_plain(net)
    current = tuple(marking)
    for position, (run, times) in enumerate(parts):
        if times > 0:
            least, change = need_and_effect(net, run)
            # In between, each number is between those before the first and before the last time.
            last = shifted(current, change, times - 1)
            if not covers(current, least) or not covers(last, least):
                raise NotEnabled(position)
            current = shifted(last, change, 1)
    return current


def shifted(marking, change, times):
    """Return the marking plus so many times the change."""
    return tuple([number + times * step for number, step in zip(marking, change)])


def spread(parts):
    """Return the list of all transitions of a list of parts, one after the other."""
    transitions = []
    for run, times in parts:
        # The empty run may be repeated more often than a list can be.
        if len(run) > 0:
            transitions.extend(list(run) * times)
    return transitions
