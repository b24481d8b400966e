"""Runs that can be repeated without end: closed walks among the limits of limit sets (points 46 and 47).

If some run can be repeated without end, its repetitions can be followed in the limit set, and in the end they
walk among limits that firing leads to exactly: what is not the same again would grow without end. There the run
is a closed walk, and its effect has no negative number where the limits have -1. The other way round, each such
walk can be fired at some marking that is reachable, as the limit set is exact.
"""

from covernets.forward import LimitTree, limit_after, limits_of_tree
from covernets.graphs import Graph, components, route
from covernets.invariants import divided
from covernets.plans import best_fractions
from covernets.runs import effects

# So much more than needed is gained at places that can grow, to make up for taking walks whole numbers of times.
MARGINS = (0, 1, 2, 4, 8, 16, 32, 64, 128, 256)


class Part:
    """A graph of limits that lead to each other.

    The limits have -1 at the same places; gains has for each transition its effect there. A step is a triple
    (number, index, target) of a limit, a transition and the limit that firing leads to.
    """

    def __init__(self, limits, moves, changes):
        self.graph = Graph(limits, moves)
        self.changes = changes
        endless = [place for place, most in enumerate(limits[0]) if most == -1]
        self.gains = [[change[place] for place in endless] for change in changes]
        self.growing = None
        self.steps = []
        for number, row in enumerate(moves):
            self.steps.extend([(number, index, target) for index, target in enumerate(row) if target != -1])

    def fired(self):
        """Return the list of the transitions that are fired in the part."""
        return sorted(set([index for _, index, _ in self.steps]))

    def places_that_grow(self):
        """Return for each place where the limits have -1 whether a closed walk without negative gains gains there."""
        if self.growing is None:
            places = list(range(len(self.gains[0])))
            lacks = [[-1 if other == place else 0 for other in places] for place in places]
            self.growing = [_balance(self, lack)[2] is None for lack in lacks]
        return self.growing

    def path(self, first, last):
        """Return the list of the steps on a shortest way from one limit to another."""
        path = []
        for index in route(self.graph, first, last):
            path.append((first, index, self.graph.moves[first][index]))
            first = path[-1][2]
        return path

    def sum_of(self, rows):
        """Return the sum of some rows with a number for each place where the limits have -1."""
        return [sum([row[at] for row in rows]) for at in range(len(self.gains[0]))]

    def gains_of(self, steps):
        """Return the gains of some steps, one after the other."""
        return self.sum_of([self.gains[index] for _, index, _ in steps])


def lasting_parts(net, limit, most):
    """Return the list of the parts all of whose steps lie on one closed walk that can be repeated without end.

    If most is not None and so many limits do not suffice to tell, return None.
    """
    changes = effects(net)
    tree = LimitTree(net, limit, None, most)
    if not tree.is_whole:
        return None
    limits = limits_of_tree(tree)
    numbers = {other: number for number, other in enumerate(limits)}
    moves = []
    for other in limits:
        moves.append([numbers.get(limit_after(transition, other), -1) for transition in net.transitions])
    waiting = _split(limits, moves, changes)
    lasting = []
    while waiting:
        part = waiting.pop()
        _, _, tight = _balance(part, _gains_everywhere(part))
        if tight is None:
            lasting.append(part)
        else:
            waiting.extend(_split(part.graph.markings, tight, changes))
    return lasting


def _split(limits, moves, changes):
    """Return the list of the parts in which there are steps."""
    members = {}
    for number, name in enumerate(components(moves)):
        members.setdefault(name, []).append(number)
    parts = []
    for numbers in members.values():
        places = {number: at for at, number in enumerate(numbers)}
        inner = [[places.get(target, -1) for target in moves[number]] for number in numbers]
        if max([max(row, default=-1) for row in inner]) != -1:
            parts.append(Part([limits[number] for number in numbers], inner, changes))
    return parts


def _gains_everywhere(part):
    """Return the gains of a closed walk that takes each step of the part."""
    ahead = _gains_to(part, part.steps)
    back = _gains_to(part, [(target, index, number) for number, index, target in part.steps])
    rows = []
    for number, index, target in part.steps:
        rows.extend([ahead[number], part.gains[index], back[target]])
    return part.sum_of(rows)


def _gains_to(part, steps):
    """Return a dict with the gains on some way from limit 0 to each other one, along the steps."""
    leaving = [[] for _ in part.graph.moves]
    for number, index, target in steps:
        leaving[number].append((index, target))
    found = {0: part.sum_of([])}
    waiting = [0]
    while waiting:
        number = waiting.pop()
        for index, target in leaving[number]:
            if target not in found:
                found[target] = part.sum_of([found[number], part.gains[index]])
                waiting.append(target)
    return found


def _balance(part, total):
    """Return closed walks, a number for each and a divisor at the end of the numbers, and None.

    Taking each walk as often as its number says, and as often as the divisor says what has the total as its
    gains, has no negative gains. If nothing does, the third one of the triple is not None, but the moves
    without those steps that no closed walk that can be repeated without end takes.
    """
    walks = []
    while True:
        rows = [part.gains_of(walk) for walk in walks] + [[1] * len(total)]
        most = [0] * len(walks) + [1]
        weights, prices, divisor = best_fractions(rows, most, [-number for number in total])
        if sum([weight * number for weight, number in zip(weights, total)]) == 0:
            return walks, divided(prices[:-1] + [divisor]), None
        # No closed walk may be worth something with these weights; then those worth less cannot be made up for.
        worth = [sum([weight * gain for weight, gain in zip(weights, row)]) for row in part.gains]
        walk, values = _worthy_walk(part, worth)
        if walk is None:
            return [], (), _tight(part, worth, values)
        walks.append(walk)


def _worthy_walk(part, worth):
    """Return a closed walk whose transitions are worth more than 0, and None; else None and values of the limits.

    No step is worth more than the value of its target is above that of its limit.
    """
    values = [0] * len(part.graph.moves)
    origins = [None] * len(values)
    last = -1
    for _ in range(len(values)):
        last = -1
        for step in part.steps:
            number, index, target = step
            if values[number] + worth[index] > values[target]:
                values[target] = values[number] + worth[index]
                origins[target] = step
                last = target
        if last == -1:
            return None, values
    # So long a way comes back to limits where it was before.
    for _ in range(len(values)):
        last = origins[last][0]
    walk = [origins[last]]
    while walk[-1][0] != last:
        walk.append(origins[walk[-1][0]])
    return walk[::-1], None


def _tight(part, worth, values):
    """Return the moves with only those steps that are worth what the value of the target is above that of the limit."""
    moves = [[-1] * len(row) for row in part.graph.moves]
    for number, index, target in part.steps:
        if values[number] + worth[index] == values[target]:
            moves[number][index] = target
    return moves


def lasting_run(part, index):
    """Return a run, a list, that fires the transition on a closed walk of a lasting part, with no negative gains."""
    walk = _walk_with(part, index)
    while True:
        times = _times_with(part, walk)
        apart = _apart([steps for steps, _ in times])
        if not apart:
            return _circuit(times)
        first, other = walk[0][0], apart[0][0][0]
        walk = walk + part.path(first, other) + part.path(other, first)


def _times_with(part, walk):
    """Return pairs (walk, times), of which the given walk is the first one, that have no negative gains together."""
    total = part.gains_of(walk)
    for margin in MARGINS:
        asked = [gain - margin if grows else gain for gain, grows in zip(total, part.places_that_grow())]
        walks, numbers, _ = _balance(part, asked)
        times = [(walk, 1)]
        for other, number in zip(walks, numbers):
            if number > 0:
                times.append((other, -(-number // numbers[-1])))
        rows = [[many * gain for gain in part.gains_of(steps)] for steps, many in times]
        if min(part.sum_of(rows), default=0) >= 0:
            return times
    walks, numbers, _ = _balance(part, total)
    return [(walk, numbers[-1])] + [pair for pair in zip(walks, numbers) if pair[1] > 0]


def _walk_with(part, index):
    """Return a closed walk with a step of the transition: if possible one without negative gains, and a short one."""
    best = None
    for step in part.steps:
        if step[1] == index:
            walk = [step] + part.path(step[2], step[0])
            key = (min(part.gains_of(walk), default=0) < 0, len(walk))
            if best is None or key < best[0]:
                best = (key, walk)
    return best[1]


def _apart(walks):
    """Return those of the walks that do not hang together with the first one."""
    reached = {number: True for number, _, _ in walks[0]}
    apart = walks[1:]
    before = None
    while before != len(apart):
        before = len(apart)
        for walk in apart:
            if [number for number, _, _ in walk if number in reached]:
                reached.update({number: True for number, _, _ in walk})
        apart = [walk for walk in apart if walk[0][0] not in reached]
    return apart


def _circuit(times):
    """Return the run of a closed walk from the first limit of the first walk that takes each walk so many times."""
    first = times[0][0][0][0]
    left = {}
    for walk, many in times:
        for number, index, target in walk:
            choices = left.setdefault(number, {})
            choices[(index, target)] = choices.get((index, target), 0) + many
    way = [(first, -1)]
    run = []
    while way:
        number, index = way[-1]
        choices = left[number]
        if choices:
            choice = list(choices)[-1]
            choices[choice] -= 1
            if choices[choice] == 0:
                del choices[choice]
            way.append((choice[1], choice[0]))
        else:
            way.pop()
            run.append(index)
    return run[:-1][::-1]
