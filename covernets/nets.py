"""Nets: places with tokens, and transitions that take, move and give them (points 11 and 12)."""

from math import comb

from covernets.closed import covers
from covernets.errors import InvalidNet, NotEnabled, NotPlain

MOST_PLACES = 12
MOST_TRANSITIONS = 24
MOST_TOKENS = 9


class Net:
    """A net with the places 0, 1, .. places - 1 and transitions (takes, gives, moves)."""

    def __init__(self, places, transitions):
        if not 1 <= places <= MOST_PLACES:
            raise InvalidNet(f"a net has from 1 to {MOST_PLACES} places")
        if len(transitions) > MOST_TRANSITIONS:
            raise InvalidNet(f"a net has at most {MOST_TRANSITIONS} transitions")
        self.places = places
        self.transitions = tuple([_checked(transition, places) for transition in transitions])


def _checked(transition, places):
    """Return a copy of the transition, or raise InvalidNet."""
    if len(transition) != 3:
        raise InvalidNet("a transition consists of takes, gives and moves")
    takes, gives, moves = transition
    return (
        _numbers(takes, places, 0, MOST_TOKENS),
        _numbers(gives, places, 0, MOST_TOKENS),
        _numbers(moves, places, -1, places - 1),
    )


def _numbers(row, places, least, most):
    """Return a copy of the row if it has one number between the bounds for each place."""
    if len(row) != places:
        raise InvalidNet("takes, gives and moves have one number for each place")
    for number in row:
        if not least <= number <= most:
            raise InvalidNet(f"a number is not between {least} and {most}")
    return tuple(row)


def is_plain(net):
    """Return True if the net is plain, otherwise False."""
    return runs_plainly(net, list(range(len(net.transitions))))


def runs_plainly(net, run):
    """Return True if all transitions of the run are plain, otherwise False."""
    staying = tuple(range(net.places))
    for index in run:
        if net.transitions[index][2] != staying:
            return False
    return True


def check_plain(net):
    """Raise NotPlain if the net is not plain."""
    if not is_plain(net):
        raise NotPlain("a transition of the net moves or loses tokens")


def enabled(net, index, marking):
    """Return True if the marking enables the transition with this index, otherwise False."""
    takes, _, _ = net.transitions[index]
    return covers(marking, takes)


def fire(net, index, marking):
    """Return the marking after firing the transition; raise NotEnabled with position 0."""
    result = after_firing(net.transitions[index], marking)
    if result is None:
        raise NotEnabled(0)
    return result


def after_firing(transition, marking):
    """Return the marking after firing the transition, or None if the marking does not enable it."""
    takes, gives, moves = transition
    if not covers(marking, takes):
        return None
    result = list(gives)
    for place, target in enumerate(moves):
        if target != -1:
            result[target] += marking[place] - takes[place]
    return tuple(result)


def predecessors(transition, member, known, whole):
    """Return the least markings from which firing leads to a marking that covers the member.

    Those that cover a marking of the basis that is known are left out; and if the whole list is not wanted,
    those that need tokens of several places where one place is enough.
    """
    takes, gives, moves = transition
    if count_predecessors(transition, member, False) == 0:
        return []
    rows = [takes]
    for place, number in enumerate(member):
        if number > gives[place]:
            sources = [source for source, target in enumerate(moves) if target == place]
            if whole:
                rows = _with_tokens(rows, sources, number - gives[place], known)
            else:
                rows = [_raised(row, source, number - gives[place]) for row in rows for source in sources]
    return [row for row in rows if not known.contains(row)]


def _with_tokens(rows, sources, number, known):
    """Return the rows with so many tokens more, spread over the sources in each way."""
    pairs = [(row, number) for row in rows]
    for source in sources[:-1]:
        pairs = [pair for row, left in pairs for pair in _with_some(row, source, left, known)]
    return [_raised(row, sources[-1], left) for row, left in pairs]


def _with_some(row, source, left, known):
    """Return pairs: the row with some of the tokens that are left at the source, and what is left then."""
    pairs = []
    for number in range(left + 1):
        raised = _raised(row, source, number)
        # What has more tokens is known, too.
        if known.contains(raised):
            break
        pairs.append((raised, left - number))
    return pairs


def _raised(row, place, number):
    """Return the row with so many tokens more at the place."""
    return row[:place] + (row[place] + number,) + row[place + 1:]


def count_predecessors(transition, member, whole):
    """Return the number of the least markings from which firing leads to the member."""
    _, gives, moves = transition
    count = 1
    for place, number in enumerate(member):
        if number > gives[place]:
            sources = moves.count(place)
            if sources == 0:
                return 0
            count = count * (comb(number - gives[place] + sources - 1, sources - 1) if whole else sources)
    return count
