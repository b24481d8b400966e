"""Siphons, which stay empty, and traps, which stay marked, of plain nets (point 27)."""

from covernets.invariants import least_parts, support
from covernets.nets import check_plain


def is_siphon(net, places):
    """Return True if the set of places is a siphon, otherwise False."""
    return largest_siphon(net, places) == sorted(set(places))


def is_trap(net, places):
    """Return True if the set of places is a trap, otherwise False."""
    return largest_trap(net, places) == sorted(set(places))


def largest_siphon(net, places):
    """Return the greatest siphon within the places, in ascending order."""
    check_plain(net)
    return _largest([(gives, takes) for takes, gives, _ in net.transitions], places)


def largest_trap(net, places):
    """Return the greatest trap within the places, in ascending order."""
    check_plain(net)
    return _largest([(takes, gives) for takes, gives, _ in net.transitions], places)


def _largest(pairs, places):
    """Return the greatest part of the places where each pair with a place on its first side has one on its second."""
    kept = sorted(set(places))
    barred = _barred(pairs, kept)
    while barred:
        kept = [place for place in kept if place not in barred]
        barred = _barred(pairs, kept)
    return kept


def _barred(pairs, kept):
    """Return the kept places that a pair has on its first side, while it has none of them on its second."""
    barred = []
    for first, second in pairs:
        if max([second[place] for place in kept], default=0) == 0:
            barred.extend([place for place in kept if first[place] > 0])
    return barred


def minimal_siphons(net):
    """Return the list of all minimal siphons, each a list in ascending order, in ascending order."""
    check_plain(net)
    pairs = [(support(gives), support(takes)) for takes, gives, _ in net.transitions]
    siphons = [places for places in range(1, 1 << net.places) if _is_closed(pairs, places)]
    return sorted([[place for place in range(net.places) if places >> place & 1] for places in least_parts(siphons)])


def _is_closed(pairs, places):
    """Return True if each pair that shares a place on its first side shares one on its second, otherwise False."""
    for first, second in pairs:
        if first & places != 0 and second & places == 0:
            return False
    return True
