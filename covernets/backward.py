"""Covering goals: the step back, the cover basis, and ways to the goals (point 15)."""

from heapq import heappop, heappush
from math import comb

from covernets.closed import Basis, basis_of, covers, in_closed
from covernets.nets import enabled, fire, is_plain, runs_plainly
from covernets.plans import has_great_numbers, plan_to
from covernets.runs import need_and_effect, run_from, shifted, spread

# So many markings are tried forward from a marking, before a way from it is searched backward.
TRIED = 60

# A plan is taken as a way if it is not longer than this.
LONGEST_PLAN = 1000000

# Runs that are pumped come from at most so many nodes, repeat other runs at most so often, and are no longer.
MOST_NODES = 40
FEW = 40
LONGEST = 400


class Node:
    """A marking from which the goals can be covered.

    From it the run leads into the closed set of the marking of the node after. It is fired once, or, where
    gains are given, until this is so; each time adds the gains at least. A goal has no node after.
    """

    def __init__(self, marking, run, gains, after):
        self.marking = marking
        self.run = run
        self.gains = gains
        self.after = after


class Search:
    """The nodes found backward from the goals, until nothing is new or the marking, if given, covers one.

    Runs are pumped: one that makes places grow is repeated as often as needed at once, so that it does not
    matter how great the numbers are.
    """

    def __init__(self, net, goals, marking):
        self.net = net
        self.marking = marking
        self.found = None
        self.nodes = []
        self.ranks = {}
        self.basis = Basis([])
        self.queue = []
        for goal in basis_of(goals):
            self.keep(Node(goal, (), None, None))
        while self.queue and self.found is None:
            _, at, index, whole = heappop(self.queue)
            if self.nodes[at].marking in self.basis.members:
                self.expand(self.nodes[at], index, whole)

    def expand(self, node, index, whole):
        """Add the nodes from which firing the transition leads to the node."""
        for marking in predecessors(self.net.transitions[index], node.marking, self.basis, whole):
            before = Node(marking, (index,), None, node)
            for pump in _pumps(self.net, before):
                self.keep(pump)
            self.keep(before)

    def keep(self, node):
        """Add the node, if its marking does not cover that of another one."""
        if self.basis.contains(node.marking):
            return
        # A node takes the turn of those that it replaces: else one that shrinks again and again would
        # never have its turn.
        replaced = self.basis.include(node.marking)
        rank = min([self.ranks[marking] for marking in replaced], default=len(self.nodes))
        self.ranks[node.marking] = rank
        for index, transition in enumerate(self.net.transitions):
            ends = count_predecessors(transition, node.marking, False)
            count = count_predecessors(transition, node.marking, True)
            if ends > 0:
                heappush(self.queue, (rank, len(self.nodes), index, False))
            # Where they are many, they wait until others may have made most of them needless.
            if count > ends:
                heappush(self.queue, (rank + count, len(self.nodes), index, True))
        self.nodes.append(node)
        if self.marking is not None and covers(self.marking, node.marking):
            self.found = node


class Loop:
    """A run from a marking along the nodes after it, in which pumped runs are fired as often as needed.

    A part is a list [run, times, gains]. Where gains are given, firing the run once more just adds them to
    the marking that is reached in the end.
    """

    def __init__(self, net, marking):
        self.net = net
        self.current = marking
        self.parts = []

    def follow(self, node):
        """Fire the run of the node; return False if this does not work."""
        plain = runs_plainly(self.net, node.run)
        times = 1 if node.gains is None else _times(node, node.marking)
        if times > FEW and plain:
            # It is fired more often as soon as something is lacking.
            times = 0
        wanted = need_and_effect(self.net, node.run)[0] if plain else node.marking
        if times * len(node.run) > LONGEST or not self.grow_to(wanted):
            return False
        self.current = run_from(self.net, self.current, list(node.run) * times)
        if not plain:
            self.parts = [[run, number, None] for run, number, _ in self.parts]
        self.parts.append([node.run, times, node.gains if plain else None])
        return True

    def grow_to(self, wanted):
        """Fire runs more often until what is wanted is covered; return False if this does not work."""
        for place, number in enumerate(wanted):
            lack = number - self.current[place]
            if lack > 0 and not self.grow(place, lack):
                return False
        return True

    def grow(self, place, lack):
        """Fire a run more often until the place has so many tokens more; return False if this does not work."""
        helpful = [part for part in self.parts if part[2] is not None and part[2][place] > 0]
        if not helpful or lack > FEW:
            return False
        part = helpful[-1]
        more = -(-lack // part[2][place])
        part[1] += more
        self.current = shifted(self.current, part[2], more)
        return True


def _pumps(net, node):
    """Return nodes with less tokens than the node, from which repeating a run leads to the node."""
    pumps = []
    loop = Loop(net, node.marking)
    other = node
    while other.after is not None and len(loop.parts) < MOST_NODES and loop.follow(other):
        other = other.after
        if loop.grow_to(node.marking):
            run = spread([(part[0], part[1]) for part in loop.parts])
            # Tokens that move may be back in their place only when the run has been fired several times.
            rounds = 1 if runs_plainly(net, run) else net.places
            found = [_pump(net, node, run * times) for times in range(1, rounds + 1)]
            pumps.extend([pump for pump in found if pump is not None])
    return pumps


def _pump(net, node, run):
    """Return the node from which repeating the run leads to the node, or None if it has no less tokens.

    The run leads from the marking of the node to one that covers it.
    """
    if len(run) > LONGEST:
        return None
    last = run_from(net, node.marking, run)
    growing = []
    for place, number in enumerate(node.marking):
        if 0 < number < last[place] and _seats(net, run, place)[-1] == place:
            growing.append(place)
    lowered = _lowered(net, node.marking, run, growing)
    if lowered == node.marking:
        return None
    last = run_from(net, lowered, run)
    return Node(lowered, tuple(run), tuple([number - low for number, low in zip(last, lowered)]), node)


def _seats(net, run, place):
    """Return where the tokens of the place are before the run and after each of its transitions, -1 if lost."""
    seats = [place]
    for index in run:
        seats.append(-1 if seats[-1] == -1 else net.transitions[index][2][seats[-1]])
    return seats


def _lowered(net, marking, run, growing):
    """Return the marking with no more tokens in the growing places than the run needs there."""
    current = [0 if place in growing else number for place, number in enumerate(marking)]
    lowered = list(current)
    seats = {place: _seats(net, run, place) for place in growing}
    for at, index in enumerate(run):
        takes, _, _ = net.transitions[index]
        for place in growing:
            seat = seats[place][at]
            lack = max(0, takes[seat] - current[seat])
            lowered[place] += lack
            current[seat] += lack
        current = list(fire(net, index, tuple(current)))
    return tuple(lowered)


def step_back(net, members):
    """Return the step back of a closed set: the basis of the markings one firing before it."""
    tasks = []
    for member in basis_of(members):
        for index, transition in enumerate(net.transitions):
            tasks.append((count_predecessors(transition, member, True), index, member))
    before = Basis([])
    # The transitions with many least markings come last, when most of these are known.
    for _, index, member in sorted(tasks):
        for marking in predecessors(net.transitions[index], member, before, True):
            before.include(marking)
    return sorted(before.members)


def predecessors(transition, member, known, whole):
    """Return the least markings from which firing leads to a marking that covers the member.

    Those that cover a marking of the basis that is known are left out; and if the whole list is not wanted,
    those that need tokens of several places where one place is enough.
    """
    takes, gives, moves = transition
    rows = [takes]
    for place, number in enumerate(member):
        if number > gives[place]:
            sources = [source for source, target in enumerate(moves) if target == place]
            if whole:
                rows = _with_tokens(rows, sources, number - gives[place], known)
            else:
                rows = [_raised(row, source, number - gives[place]) for row in rows for source in sources]
    return [row for row in rows if not known.contains(row)]


def _with_tokens(rows, sources, number, known):
    """Return the rows with so many tokens more, spread over the sources in each way."""
    if not sources:
        return []
    pairs = [(row, number) for row in rows]
    for source in sources[:-1]:
        pairs = [pair for row, left in pairs for pair in _with_some(row, source, left, known)]
    return [_raised(row, sources[-1], left) for row, left in pairs]


def _with_some(row, source, left, known):
    """Return pairs: the row with some of the tokens that are left at the source, and what is left then."""
    pairs = []
    for number in range(left + 1):
        raised = _raised(row, source, number)
        # What has more tokens is known, too.
        if known.contains(raised):
            break
        pairs.append((raised, left - number))
    return pairs


def _raised(row, place, number):
    """Return the row with so many tokens more at the place."""
    return row[:place] + (row[place] + number,) + row[place + 1:]


def count_predecessors(transition, member, whole):
    """Return the number of the least markings from which firing leads to the member."""
    _, gives, moves = transition
    count = 1
    for place, number in enumerate(member):
        if number > gives[place]:
            sources = moves.count(place)
            if sources == 0:
                return 0
            count = count * (comb(number - gives[place] + sources - 1, sources - 1) if whole else sources)
    return count


def cover_basis(net, goals):
    """Return the cover basis of the goals: the least markings from which they can be covered."""
    return sorted(Search(net, goals, None).basis.members)


def way(net, goals, marking):
    """Return a run, a list, that leads from the marking into the closed set of the goals, or None."""
    markings, runs = _try_forward(net, goals, tuple(marking))
    if in_closed(goals, markings[-1]):
        return runs[-1]
    if len(markings) < TRIED:
        return None
    if is_plain(net) and has_great_numbers(marking):
        plans = [plan_to(net, marking, goal) for goal in goals]
        if True not in [possible for possible, _ in plans]:
            return None
        for _, parts in plans:
            if parts is not None and sum([len(run) * times for run, times in parts]) <= LONGEST_PLAN:
                return spread(parts)
    node = Search(net, goals, marking).found
    return None if node is None else _run_along(net, node, marking)


def _try_forward(net, goals, marking):
    """Return markings that are reachable, up to the first one that covers a goal, and the runs to them.

    If they are less than those to be tried, each marking that is reachable is covered by one of them.
    """
    markings = [marking]
    runs = [[]]
    at = 0
    while at < len(markings) < TRIED and not in_closed(goals, markings[-1]):
        for index in range(len(net.transitions)):
            if enabled(net, index, markings[at]) and not in_closed(goals, markings[-1]):
                result = fire(net, index, markings[at])
                # What another marking covers leads to nothing more than that one.
                if not _is_covered(result, markings):
                    markings.append(result)
                    runs.append(runs[at] + [index])
        at += 1
    return markings, runs


def _is_covered(marking, others):
    """Return True if one of the others covers the marking, otherwise False."""
    for other in others:
        if covers(other, marking):
            return True
    return False


def _run_along(net, node, marking):
    """Return the run that leads from the marking along the nodes to a goal."""
    run = []
    while node.after is not None:
        part = list(node.run) * _times(node, marking)
        marking = run_from(net, marking, part)
        run.extend(part)
        node = node.after
    return run


def _times(node, marking):
    """Return how often the run of the node is to be fired from the marking."""
    wanted = node.after.marking
    if covers(marking, wanted):
        return 0
    if node.gains is None:
        return 1
    lacks = [(goal - number, gain) for goal, number, gain in zip(wanted, marking, node.gains) if goal > number]
    return max([-(-lack // gain) for lack, gain in lacks])
