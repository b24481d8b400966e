"""Covering goals: the step back, the cover basis, and ways to the goals (point 15).

The same is done here for configurations of mail nets (point 33): their words are given with the markings, and
the actions of the transitions with the net. A net alone is one without channels, where nothing is heard or sent.
Runs are fired with losses then: what stands before a letter that is to be heard is lost.
"""

from heapq import heappop, heappush

from covernets.configs import (
    Beside, ConfigBasis, config_basis, config_covers, in_config_set, words_after, words_before, words_cover,
)
from covernets.limits import admits
from covernets.nets import after_firing, count_predecessors, fire, is_plain, predecessors, runs_plainly
from covernets.plans import has_great_numbers, plan_to
from covernets.runs import need_and_effect, run_from, shifted, spread

# So many markings are tried forward from a marking, before a way from it is searched backward.
TRIED = 60

# A plan is taken as a way if it is not longer than this.
LONGEST_PLAN = 1000000

# Runs are not pumped to markings with numbers that are all less than this: a few firings do as well.
SMALL = 8

# Runs that are pumped come from at most so many nodes, repeat other runs at most so often, and are no longer.
MOST_NODES = 40
FEW = 40
LONGEST = 400


class Node:
    """A marking with words from which the goals can be covered.

    From it the run leads into the closed set of the node after. It is fired once, or, where gains are given,
    until this is so; each time adds the gains to the marking at least, and leads to words that cover those of
    the node, which are those of the node after. A goal has no node after.
    """

    def __init__(self, config, run, gains, after):
        self.config = config
        self.marking, self.words = config
        self.run = run
        self.gains = gains
        self.after = after


class Search:
    """The nodes found backward from the goals, until nothing is new or the configuration, if given, covers one.

    Runs are pumped: one that makes places grow is repeated as often as needed at once, so that it does not
    matter how great the numbers are. The configuration may have a limit instead of a marking. Markings that
    are over the caps are left out.
    """

    def __init__(self, net, actions, goals, config, caps=()):
        self.net = net
        self.actions = actions
        self.config = config
        self.caps = caps
        self.found = None
        self.nodes = []
        self.ranks = {}
        self.basis = ConfigBasis([])
        self.queue = []
        for goal in config_basis(goals):
            self.keep(Node(goal, (), None, None))
        while self.queue and self.found is None:
            _, at, index, whole = heappop(self.queue)
            if self.nodes[at].config in self.basis.members:
                self.expand(self.nodes[at], index, whole)

    def expand(self, node, index, whole):
        """Add the nodes from which firing the transition leads to the node."""
        words = words_before(self.actions[index], node.words)
        known = Beside(self.basis, words)
        for marking in predecessors(self.net.transitions[index], node.marking, known, whole):
            if is_over(self.caps, marking):
                continue
            before = Node((marking, words), (index,), None, node)
            if max(marking) >= SMALL:
                for pump in _pumps(self.net, self.actions, before):
                    self.keep(pump)
            self.keep(before)

    def keep(self, node):
        """Add the node, if it does not cover another one."""
        if is_over(self.caps, node.marking) or self.basis.contains(node.config):
            return
        # A node takes the turn of those that it replaces: else one that shrinks again and again would
        # never have its turn.
        replaced = self.basis.include(node.config)
        rank = min([self.ranks[config] for config in replaced], default=len(self.nodes))
        self.ranks[node.config] = rank
        for index, transition in enumerate(self.net.transitions):
            ends = count_predecessors(transition, node.marking, False)
            count = count_predecessors(transition, node.marking, True)
            if ends > 0:
                heappush(self.queue, (rank, len(self.nodes), index, False))
            # Where they are many, they wait until others may have made most of them needless.
            if count > ends:
                heappush(self.queue, (rank + count, len(self.nodes), index, True))
        self.nodes.append(node)
        if self.config is not None:
            limit, words = self.config
            if admits(limit, node.marking) and words_cover(words, node.words):
                self.found = node


def is_over(caps, marking):
    """Return True if the marking is over one of the caps, otherwise False.

    A cap is a pair of weights and of the most that the sum of the numbers, each times its weight, can be.
    """
    for weights, most in caps:
        if sum([weight * number for weight, number in zip(weights, marking)]) > most:
            return True
    return False


class Loop:
    """A run from a node along the nodes after it, in which pumped runs are fired as often as needed.

    A part is a list [run, times, gains]. Where gains are given, firing the run once more just adds them to
    the marking that is reached in the end.
    """

    def __init__(self, net, actions, node):
        self.net = net
        self.actions = actions
        self.current, self.words = node.config
        self.parts = []

    def follow(self, node):
        """Fire the run of the node; return False if this does not work."""
        plain = runs_plainly(self.net, node.run)
        times = 1 if node.gains is None else _times(node, node.marking)
        if times > FEW and plain:
            # It is fired more often as soon as something is lacking.
            times = 0
        wanted = need_and_effect(self.net, node.run)[0] if plain else node.marking
        if times * len(node.run) > LONGEST or not self.grow_to(wanted):
            return False
        self.current = run_from(self.net, self.current, list(node.run) * times)
        self.words = _words_after_run(self.actions, self.words, list(node.run) * times)
        if not plain:
            self.parts = [[run, number, None] for run, number, _ in self.parts]
        self.parts.append([node.run, times, node.gains if plain else None])
        return True

    def grow_to(self, wanted):
        """Fire runs more often until what is wanted is covered; return False if this does not work."""
        for place, number in enumerate(wanted):
            lack = number - self.current[place]
            if lack > 0 and not self.grow(place, lack):
                return False
        return True

    def grow(self, place, lack):
        """Fire a run more often until the place has so many tokens more; return False if this does not work."""
        helpful = [part for part in self.parts if part[2] is not None and part[2][place] > 0]
        if not helpful or lack > FEW:
            return False
        part = helpful[-1]
        more = -(-lack // part[2][place])
        part[1] += more
        self.current = shifted(self.current, part[2], more)
        return True


def _pumps(net, actions, node):
    """Return nodes with less tokens than the node, from which repeating a run leads to the node."""
    pumps = []
    loop = Loop(net, actions, node)
    other = node
    while other.after is not None and len(loop.parts) < MOST_NODES and loop.follow(other):
        other = other.after
        if words_cover(loop.words, node.words) and loop.grow_to(node.marking):
            run = spread([(part[0], part[1]) for part in loop.parts])
            # Tokens that move may be back in their place only when the run has been fired several times.
            rounds = 1 if runs_plainly(net, run) else net.places
            found = [_pump(net, actions, node, run * times) for times in range(1, rounds + 1)]
            pumps.extend([pump for pump in found if pump is not None])
    return pumps


def _pump(net, actions, node, run):
    """Return the node from which repeating the run leads to the node, or None if it has no less tokens.

    The run leads from the marking of the node to one that covers it.
    """
    if len(run) > LONGEST or not words_cover(_words_after_run(actions, node.words, run), node.words):
        return None
    last = run_from(net, node.marking, run)
    growing = []
    for place, number in enumerate(node.marking):
        if 0 < number < last[place] and _seats(net, run, place)[-1] == place:
            growing.append(place)
    lowered = _lowered(net, node.marking, run, growing)
    if lowered == node.marking:
        return None
    last = run_from(net, lowered, run)
    gains = tuple([number - low for number, low in zip(last, lowered)])
    return Node((lowered, node.words), tuple(run), gains, node)


def _words_after_run(actions, words, run):
    """Return the greatest words to which the run leads from these, from which it can be fired."""
    if words:
        for index in run:
            words = words_after(actions[index], words)
    return words


def _seats(net, run, place):
    """Return where the tokens of the place are before the run and after each of its transitions, -1 if lost."""
    seats = [place]
    for index in run:
        seats.append(-1 if seats[-1] == -1 else net.transitions[index][2][seats[-1]])
    return seats


def _lowered(net, marking, run, growing):
    """Return the marking with no more tokens in the growing places than the run needs there."""
    current = [0 if place in growing else number for place, number in enumerate(marking)]
    lowered = list(current)
    seats = {place: _seats(net, run, place) for place in growing}
    for at, index in enumerate(run):
        takes, _, _ = net.transitions[index]
        for place in growing:
            seat = seats[place][at]
            lack = max(0, takes[seat] - current[seat])
            lowered[place] += lack
            current[seat] += lack
        current = list(fire(net, index, tuple(current)))
    return tuple(lowered)


def step_back(net, members):
    """Return the step back of a closed set: the basis of the markings one firing before it."""
    return [marking for marking, _ in configs_before(net, silent(net), alone(members))]


def silent(net):
    """Return actions for the net in which nothing is heard or sent."""
    return [((), ()) for _ in net.transitions]


def alone(markings):
    """Return the list of the configurations of the markings without channels."""
    return [(marking, ()) for marking in markings]


def configs_before(net, actions, members):
    """Return the basis of the configurations one firing before a closed set of configurations."""
    tasks = []
    for marking, words in config_basis(members):
        for index, transition in enumerate(net.transitions):
            tasks.append((count_predecessors(transition, marking, True), index, marking, words))
    before = ConfigBasis([])
    # The transitions with many least markings come last, when most of these are known.
    for _, index, marking, words in sorted(tasks):
        earlier = words_before(actions[index], words)
        for row in predecessors(net.transitions[index], marking, Beside(before, earlier), True):
            before.include((row, earlier))
    return sorted(before.members)


def cover_basis(net, goals):
    """Return the cover basis of the goals: the least markings from which they can be covered."""
    return [marking for marking, _ in sorted(Search(net, silent(net), alone(goals), None).basis.members)]


def way(net, goals, marking):
    """Return a run, a list, that leads from the marking into the closed set of the goals, or None."""
    return config_way(net, silent(net), alone(goals), (tuple(marking), ()))


def has_way(net, actions, goals, config, caps):
    """Return True if some run leads with losses from the configuration into the goals, otherwise False.

    No marking that is reachable is over one of the caps.
    """
    marking, words = config
    if not words and is_plain(net) and has_great_numbers(marking):
        plans = [plan_to(net, marking, goal) for goal, _ in goals]
        if True not in [possible for possible, _ in plans]:
            return False
        if [parts for _, parts in plans if parts is not None]:
            return True
    return Search(net, actions, goals, config, caps).found is not None


def config_way(net, actions, goals, config):
    """Return a run, a list, that leads with losses from the configuration into the goals, or None."""
    configs, runs = _try_forward(net, actions, goals, config)
    if in_config_set(goals, configs[-1]):
        return runs[-1]
    if len(configs) < TRIED:
        return None
    marking, words = config
    if not words and is_plain(net) and has_great_numbers(marking):
        plans = [plan_to(net, marking, goal) for goal, _ in goals]
        if True not in [possible for possible, _ in plans]:
            return None
        for _, parts in plans:
            if parts is not None and sum([len(run) * times for run, times in parts]) <= LONGEST_PLAN:
                return spread(parts)
    node = Search(net, actions, goals, config).found
    return None if node is None else _run_along(net, actions, node, config)


def _try_forward(net, actions, goals, config):
    """Return configurations that are reachable, up to the first one that covers a goal, and the runs to them.

    If they are less than those to be tried, each one that is reachable is covered by one of them.
    """
    configs = [config]
    runs = [[]]
    at = 0
    while at < len(configs) < TRIED and not in_config_set(goals, configs[-1]):
        for index, action in enumerate(actions):
            result = config_after(net, action, index, configs[at])
            if result is not None and not in_config_set(goals, configs[-1]):
                # What another one covers leads to nothing more than that one.
                if not _is_covered(result, configs):
                    configs.append(result)
                    runs.append(runs[at] + [index])
        at += 1
    return configs, runs


def config_after(net, action, index, config):
    """Return the greatest configuration after firing the transition, perhaps after some losses, or None."""
    marking, words = config
    result = after_firing(net.transitions[index], marking)
    after = words_after(action, words)
    return None if result is None or after is None else (result, after)


def _is_covered(config, others):
    """Return True if one of the others covers the configuration, otherwise False."""
    for other in others:
        if config_covers(other, config):
            return True
    return False


def _run_along(net, actions, node, config):
    """Return the run that leads from the configuration along the nodes to a goal."""
    run = []
    marking, words = config
    while node.after is not None:
        part = []
        if not config_covers((marking, words), node.after.config):
            part = list(node.run) * _times(node, marking)
        marking = run_from(net, marking, part)
        words = _words_after_run(actions, words, part)
        run.extend(part)
        node = node.after
    return run


def _times(node, marking):
    """Return how often the run of the node is to be fired from the marking, if the words do not matter."""
    if node.gains is None:
        return 1
    wanted = node.after.marking
    lacks = [(goal - number, gain) for goal, number, gain in zip(wanted, marking, node.gains) if goal > number]
    return max([-(-lack // gain) for lack, gain in lacks], default=0)
