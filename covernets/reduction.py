"""Reductions of nets that keep the answer and the least count (point 30)."""

from covernets.closed import covers
from covernets.nets import Net


class Reduced:
    """A net with a start and goals after reductions; places and transitions tell what of the original was kept."""

    def __init__(self, net, start, goals, places, transitions):
        base, free = start
        self.net = net
        self.start = (tuple(base), free)
        self.goals = tuple([tuple(goal) for goal in goals])
        self.places = tuple(places)
        self.transitions = tuple(transitions)


def reduce_net(net, start, goals):
    """Return the result of the reductions."""
    reduced = Reduced(net, start, goals, list(range(net.places)), list(range(len(net.transitions))))
    before = None
    while before != (reduced.places, reduced.transitions):
        before = (reduced.places, reduced.transitions)
        base, free = reduced.start
        marked = [number > 0 or place == free for place, number in enumerate(base)]
        reduced = _with_transitions(reduced, possible_transitions(reduced.net, marked))
        reduced = _with_relevant(reduced)
        reduced = _with_transitions(reduced, _useful(reduced.net))
        reduced = _with_transitions(reduced, _not_dominated(reduced.net))
    return reduced


def original_run(reduced, run):
    """Return the run of the original net, a list, for a run of the reduced net."""
    return [reduced.transitions[index] for index in run]


def possible_transitions(net, marked):
    """Return the indexes of the transitions that are possible, if marked tells which places have tokens at first."""
    filled = list(marked)
    possible = []
    before = None
    while before != (filled, possible):
        before = (filled, possible)
        possible = []
        for index, (takes, _, _) in enumerate(net.transitions):
            if False not in [filled[place] for place, number in enumerate(takes) if number > 0]:
                possible.append(index)
        filled = _filled(net, filled, possible)
    return possible


def _filled(net, marked, indexes):
    """Return which places can have tokens after one firing of one of the transitions, or none, if marked had some."""
    filled = list(marked)
    for index in indexes:
        _, gives, moves = net.transitions[index]
        for place, target in enumerate(moves):
            if gives[place] > 0:
                filled[place] = True
            if marked[place] and target != -1:
                filled[target] = True
    return filled


def _with_transitions(reduced, indexes):
    """Return what is left if only these transitions are kept."""
    return _restricted(reduced, list(range(reduced.net.places)), indexes)


def _with_relevant(reduced):
    """Return what is left if only the relevant places and transitions are kept."""
    relevant = [max([goal[place] for goal in reduced.goals], default=0) > 0 for place in range(reduced.net.places)]
    before = None
    indexes = []
    while before != (relevant, indexes):
        before = (relevant, indexes)
        indexes = [at for at, step in enumerate(reduced.net.transitions) if _fills(step, relevant)]
        relevant = _needed(reduced.net, relevant, indexes)
    places = [place for place, needed in enumerate(relevant) if needed]
    return _restricted(reduced, places if places else [0], indexes)


def _fills(transition, relevant):
    """Return True if the transition gives to a relevant place or moves tokens to another one that is relevant."""
    _, gives, moves = transition
    for place, target in enumerate(moves):
        if relevant[place] and gives[place] > 0:
            return True
        if target not in (place, -1) and relevant[target]:
            return True
    return False


def _needed(net, relevant, indexes):
    """Return which places are relevant or are needed by one of the transitions to fill those that are."""
    needed = list(relevant)
    for index in indexes:
        takes, _, moves = net.transitions[index]
        for place, target in enumerate(moves):
            if takes[place] > 0 or (target != -1 and relevant[target]):
                needed[place] = True
    return needed


def _restricted(reduced, places, indexes):
    """Return what is left if only these places and transitions are kept."""
    numbers = {place: at for at, place in enumerate(places)}
    transitions = []
    for index in indexes:
        takes, gives, moves = reduced.net.transitions[index]
        targets = tuple([numbers.get(moves[place], -1) for place in places])
        transitions.append((_part(takes, places), _part(gives, places), targets))
    base, free = reduced.start
    return Reduced(
        Net(len(places), transitions),
        (_part(base, places), numbers.get(free, -1)),
        [_part(goal, places) for goal in reduced.goals],
        _part(reduced.places, places),
        _part(reduced.transitions, indexes),
    )


def _part(row, places):
    """Return the numbers of the row at these places."""
    return tuple([row[place] for place in places])


def _useful(net):
    """Return the indexes of the transitions that are not useless."""
    useful = []
    for index, (takes, gives, moves) in enumerate(net.transitions):
        moved = [place for place, target in enumerate(moves) if target not in (place, -1)]
        if moved or not covers(takes, gives):
            useful.append(index)
    return useful


def _not_dominated(net):
    """Return the indexes of the transitions that no other one dominates."""
    kept = []
    for index, transition in enumerate(net.transitions):
        dominating = [at for at, other in enumerate(net.transitions) if _dominates(other, at, transition, index)]
        if not dominating:
            kept.append(index)
    return kept


def _dominates(other, at, transition, index):
    """Return True if the transition with an index is dominated by the other one, with the index at."""
    if other == transition:
        return at < index
    return other[2] == transition[2] and covers(transition[0], other[0]) and covers(other[1], transition[1])
