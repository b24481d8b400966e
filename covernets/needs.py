"""Needs of states: with how many parties at least some party can be in them (point 50)."""

from covernets.backward import Search
from covernets.compiler import compile_protocol
from covernets.configs import markings_with_empty_words
from covernets.decisions import least_count
from covernets.scopes import Scope, all_rules, start_limit


def needs(protocol):
    """Return the tuple of the needs of all states in their order, None for a state without need."""
    _, start, _ = compile_protocol(protocol)
    scope = Scope(protocol, all_rules(protocol), start_limit(start))
    return tuple([_need(scope, start, place, len(protocol.channels)) for place in range(len(protocol.states))])


def _need(scope, start, place, channels):
    """Return the least count with which a run leads to a token in the place, or None."""
    goal = tuple([1 if other == place else 0 for other in range(scope.net.places)])
    search = Search(scope.net, scope.actions, [(goal, ((),) * channels)], None, scope.caps)
    return least_count(start, markings_with_empty_words(list(search.basis.members)))
