"""Agreement: what all parties answer in the end (point 48)."""

from covernets.compiler import compile_protocol
from covernets.decisions import start_marking
from covernets.graphs import explore, last_components


def agreement(protocol, ones, count, limit):
    """Return "yes", "no" or "open"; raise TooMany if the graph has more than limit markings."""
    mail, start, _ = compile_protocol(protocol)
    graph = explore(mail.net, start_marking(start, count), limit)
    finals = []
    for component in last_components(graph):
        finals.extend([graph.markings[number] for number in component])
    if _are_empty(finals, [place for place, state in enumerate(protocol.states) if state not in ones]):
        return "yes"
    if _are_empty(finals, [place for place, state in enumerate(protocol.states) if state in ones]):
        return "no"
    return "open"


def _are_empty(markings, places):
    """Return True if no marking has a token in one of the places, otherwise False."""
    for marking in markings:
        if sum([marking[place] for place in places]) > 0:
            return False
    return True
