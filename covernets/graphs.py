"""Graphs of nets with finitely many reachable markings (points 28 and 29)."""

from covernets.errors import TooMany
from covernets.nets import after_firing


class Graph:
    """The markings that are reachable from the first one, and for each the numbers of those after firing, or -1."""

    def __init__(self, markings, moves):
        self.markings = tuple([tuple(marking) for marking in markings])
        self.moves = tuple([tuple(row) for row in moves])


def explore(net, marking, limit):
    """Return the graph of a net and a marking; raise TooMany if more than limit markings are reachable."""
    markings = [tuple(marking)]
    numbers = {markings[0]: 0}
    moves = []
    while len(moves) < len(markings):
        current = markings[len(moves)]
        row = []
        for transition in net.transitions:
            result = after_firing(transition, current)
            if result is None:
                row.append(-1)
                continue
            if result not in numbers:
                if len(markings) >= limit:
                    raise TooMany("more markings than the limit are reachable")
                numbers[result] = len(markings)
                markings.append(result)
            row.append(numbers[result])
        moves.append(row)
    return Graph(markings, moves)


def stuck(graph):
    """Return the list of the numbers of the stuck markings."""
    return [number for number, row in enumerate(graph.moves) if max(row, default=-1) == -1]


def live(graph):
    """Return the list of the live transitions."""
    # From each marking a run leads into a last component, and only such a one is never left.
    found = [_fired_within(graph, component) for component in last_components(graph)]
    return [index for index in range(len(graph.moves[0])) if all([index in fired for fired in found])]


def _fired_within(graph, numbers):
    """Return the list of the transitions that some marking with one of the numbers enables."""
    fired = []
    for index in range(len(graph.moves[0])):
        if max([graph.moves[number][index] for number in numbers]) != -1:
            fired.append(index)
    return fired


def homes(graph):
    """Return the list of the numbers of the homes."""
    found = last_components(graph)
    return found[0] if len(found) == 1 else []


def last_components(graph):
    """Return the list of the components that are not left: each a list of numbers of markings that lead to each other.

    So these are the markings that can be reached again from all that can be reached from them.
    """
    names = components(graph.moves)
    members = {}
    left = {}
    for number, row in enumerate(graph.moves):
        members.setdefault(names[number], []).append(number)
        for target in row:
            if target != -1 and names[target] != names[number]:
                left[names[number]] = True
    return [members[name] for name in sorted(members) if name not in left]


def repeatable(graph):
    """Return the list of the repeatable transitions."""
    names = components(graph.moves)
    found = {}
    for number in Walk(graph.moves).visit(0):
        for index, target in enumerate(graph.moves[number]):
            if target != -1 and names[target] == names[number]:
                found[index] = True
    return sorted(found)


class Walk:
    """A walk along rows with the numbers of other rows, or -1, that visits each row once."""

    def __init__(self, rows):
        self.rows = rows
        self.seen = [False] * len(rows)

    def visit(self, first):
        """Return the numbers that are reached from the first one and were not visited, each after those behind it."""
        finished = []
        waiting = [] if self.seen[first] else [(first, 0)]
        self.seen[first] = True
        while waiting:
            number, at = waiting.pop()
            if at == len(self.rows[number]):
                finished.append(number)
                continue
            waiting.append((number, at + 1))
            target = self.rows[number][at]
            if target != -1 and not self.seen[target]:
                self.seen[target] = True
                waiting.append((target, 0))
        return finished


def components(moves):
    """Return for each row of moves a name that those have in common that lead to each other."""
    sources = [[] for _ in moves]
    for number, row in enumerate(moves):
        for target in row:
            if target != -1:
                sources[target].append(number)
    walk = Walk(moves)
    order = []
    for first in range(len(sources)):
        order.extend(walk.visit(first))
    back = Walk(sources)
    names = [-1] * len(sources)
    # The last one that is not named leads to all those from which a run leads to it without a name in between.
    for first in reversed(order):
        for number in back.visit(first):
            names[number] = first
    return names


def route(graph, first, second):
    """Return the first one of the shortest runs, a list, from one marking to another, or None if there is none."""
    runs = {first: None}
    waiting = [first]
    at = 0
    while at < len(waiting) and second not in runs:
        number = waiting[at]
        for index, target in enumerate(graph.moves[number]):
            if target != -1 and target not in runs:
                runs[target] = (number, index)
                waiting.append(target)
        at += 1
    if second not in runs:
        return None
    run = []
    number = second
    while runs[number] is not None:
        number, index = runs[number]
        run.append(index)
    return run[::-1]
