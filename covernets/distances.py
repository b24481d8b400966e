"""Distances from goals: how many firings they are away at least (points 49 and 53).

As in covernets.backward, nets come with actions and markings with words; losing letters counts nothing.
"""

from covernets.backward import config_after, has_way, is_over
from covernets.configs import Beside, ConfigBasis, ConfigTops, config_basis, words_before
from covernets.nets import count_predecessors, predecessors

# After so many configurations it is asked whether a goal can be reached at all.
TRIED = 5000


class Layers:
    """The least configurations from which goals can be covered, layer by layer.

    What covers one of a layer is so many firings away from the goals as the layer tells, or less if it covers
    one of an earlier layer, too. Markings that are over the caps are left out. When the last layer is empty,
    so are all others. The cost tells how many configurations may have to be looked at for the next layer.
    """

    def __init__(self, net, actions, goals, caps):
        self.net = net
        self.actions = actions
        self.goals = goals
        self.caps = caps
        self.basis = ConfigBasis([])
        self.layers = []
        self.cost = 0
        self.keep([goal for goal in config_basis(goals) if not is_over(caps, goal[0])])

    def keep(self, configs):
        """Make a layer of those configurations that cover none of the earlier layers."""
        layer = ConfigBasis([])
        for config in configs:
            if not self.basis.contains(config):
                self.basis.include(config)
                layer.include(config)
        self.layers.append(layer)
        self.cost = 0
        for marking, _ in layer.members:
            self.cost += sum([count_predecessors(transition, marking, True) for transition in self.net.transitions])

    def is_done(self):
        """Return True if all further layers are empty, otherwise False."""
        return not self.layers[-1].members

    def add_layer(self):
        """Add the next layer."""
        found = ConfigBasis([])
        for marking, words in list(self.layers[-1].members):
            for transition, action in zip(self.net.transitions, self.actions):
                earlier = words_before(action, words)
                for row in predecessors(transition, marking, Beside(self.basis, earlier), True):
                    if not is_over(self.caps, row):
                        found.include((row, earlier))
        self.keep(list(found.members))

    def layer_of(self, config):
        """Return the index of the first layer of which the configuration covers one, or None."""
        if not self.basis.contains(config):
            return None
        index = 0
        while not self.layers[index].contains(config):
            index += 1
        return index


class Trail:
    """The greatest configurations that firing leads to from one of them, as many firings away as front tells.

    They are in the order of their runs: the shorter one first, of several ones the one that comes first when
    they are compared number by number. What an earlier one covers is left out: it leads to no goal earlier.
    """

    def __init__(self, net, actions, config):
        self.net = net
        self.actions = actions
        self.configs = [config]
        self.origins = [None]
        self.front = [0]
        self.tops = ConfigTops([_negated(config)])

    def advance(self):
        """Go on to the configurations that are one firing farther away."""
        front = []
        for number in self.front:
            for index, action in enumerate(self.actions):
                result = config_after(self.net, action, index, self.configs[number])
                if result is not None and not self.tops.contains(_negated(result)):
                    self.tops.include(_negated(result))
                    front.append(len(self.configs))
                    self.configs.append(result)
                    self.origins.append((number, index))
        self.front = front

    def run_to(self, number):
        """Return the run to the configuration with the number."""
        run = []
        while self.origins[number] is not None:
            number, index = self.origins[number]
            run.append(index)
        return run[::-1]


def _negated(config):
    """Return the configuration with the negatives of the numbers of its marking."""
    marking, words = config
    return tuple([-number for number in marking]), words


def shortest_run(layers, config):
    """Return the shortest run that leads with losses from the configuration into the goals, or None if none does.

    Of several ones it is the one that comes first when they are compared number by number. Layers are added
    as needed.
    """
    away = layers.layer_of(config)
    if away is not None:
        return _run_down(layers, config, away)
    trail = Trail(layers.net, layers.actions, config)
    asked = False
    ahead = 0
    back = 0
    while trail.front and not layers.is_done():
        # All runs have been tried that are as long as the trail and the layers together. The side goes on that
        # costs less so far: the other one may never come to an end.
        next_ahead = ahead + len(trail.front) * len(layers.actions)
        next_back = back + layers.cost
        if next_back < next_ahead:
            back = next_back
            layers.add_layer()
        else:
            ahead = next_ahead
            trail.advance()
        for number in trail.front:
            if layers.layers[-1].contains(trail.configs[number]):
                away = len(layers.layers) - 1
                return trail.run_to(number) + _run_down(layers, trail.configs[number], away)
        if ahead + back > TRIED and not asked:
            asked = True
            if not has_way(layers.net, layers.actions, layers.goals, config, layers.caps):
                return None
    return None


def _run_down(layers, config, away):
    """Return the first shortest run into the goals from the configuration, which is so many firings away."""
    run = []
    while away > 0:
        away -= 1
        index = 0
        after = config_after(layers.net, layers.actions[0], 0, config)
        while after is None or not layers.layers[away].contains(after):
            index += 1
            after = config_after(layers.net, layers.actions[index], index, config)
        run.append(index)
        config = after
    return run
