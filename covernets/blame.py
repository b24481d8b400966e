"""Sets of rules that are enough for a bad global state, and those that are safe (point 44)."""

from covernets.backward import Search
from covernets.compiler import compile_protocol
from covernets.protocols import System
from covernets.scopes import Scope, start_limit


def restricted(protocol, chosen):
    """Return the protocol that has only the rules with the chosen indexes."""
    rules = [protocol.rules[index] for index in chosen]
    return System(
        protocol.states, protocol.start, protocol.variables, rules, protocol.bad, channels=protocol.channels
    )


def blames(protocol):
    """Return the list of all blames, the least sets of rules that are enough, in ascending order."""
    return _borders(protocol)[0]


def repairs(protocol):
    """Return the list of all repairs, the greatest sets of rules that are safe, in ascending order."""
    return _borders(protocol)[1]


def _borders(protocol):
    """Return the list of all blames and the list of all repairs."""
    least = []
    greatest = []
    for chosen in _all_sets(len(protocol.rules)):
        # Sets come after the sets that contain them: if one is safe that is in no safe one so far, it is a repair.
        if not _is_known(least, greatest, chosen):
            needed = _rules_for_bad(protocol, chosen)
            if needed is None:
                greatest.append(chosen)
            else:
                least.append(_shrunk(protocol, needed))
    return sorted(least), sorted(greatest)


def _all_sets(many):
    """Return all sets of so many rules, as tuples of indexes, the greatest sets first."""
    sets = [tuple([index for index in range(many) if bits >> index & 1]) for bits in range(1 << many)]
    return sorted(sets, key=_minus_length)


def _minus_length(chosen):
    """Return a number that is less for longer tuples."""
    return -len(chosen)


def _is_known(least, greatest, chosen):
    """Return True if the set contains one of the blames or is contained in one of the repairs, otherwise False."""
    for blame in least:
        if _is_part(blame, chosen):
            return True
    for repair in greatest:
        if _is_part(chosen, repair):
            return True
    return False


def _is_part(first, second):
    """Return True if all of the first tuple is in the second one, otherwise False."""
    for index in first:
        if index not in second:
            return False
    return True


def _shrunk(protocol, enough):
    """Return a blame that is contained in a set that is enough."""
    blame = enough
    for index in enough:
        if index in blame:
            needed = _rules_for_bad(protocol, tuple([other for other in blame if other != index]))
            blame = blame if needed is None else needed
    return blame


def _rules_for_bad(protocol, chosen):
    """Return some of the chosen rules, a tuple, that are enough, or None if the chosen ones are safe."""
    _, start, _ = compile_protocol(protocol)
    scope = Scope(protocol, chosen, start_limit(start))
    silence = tuple([() for _ in protocol.channels])
    node = Search(scope.net, scope.actions, scope.goals, (start_limit(start), silence), scope.caps).found
    if node is None:
        return None
    used = []
    while node is not None:
        used.extend([scope.indexes[index] for index in node.run])
        node = node.after
    return tuple([index for index in chosen if index in used])
