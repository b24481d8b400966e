"""Watches, which follow the global state of a protocol and tell how near a bad one is (point 53)."""

from covernets.compiler import compile_protocol, config_of, schedule_from
from covernets.distances import Layers, shortest_run
from covernets.mailcover import steps_of
from covernets.parties import start_state, take_step
from covernets.scopes import Scope, all_rules


class Watch:
    """A watch over the global state of a protocol with a number of parties."""

    def __init__(self, protocol, count):
        self.protocol = protocol
        self.state = start_state(protocol, count)
        marking, _ = config_of(protocol, self.state)
        scope = Scope(protocol, all_rules(protocol), marking)
        self.rules = tuple(scope.indexes)
        self.layers = Layers(scope.net, scope.actions, scope.goals, scope.caps)
        self.run = self.run_to_bad()

    def run_to_bad(self):
        """Return the shortest run of rules, a tuple, that leads with losses to a bad global state, or None."""
        run = shortest_run(self.layers, config_of(self.protocol, self.state))
        return None if run is None else tuple([self.rules[index] for index in run])

    def take(self, step):
        """Take a step and return the danger of the global state after it; raise IllegalStep with position 0."""
        self.state = take_step(self.protocol, self.state, step)
        # What cannot be reached any more never can again.
        if self.run is not None:
            self.run = self.run_to_bad()
        return self.danger()

    def danger(self):
        """Return the least number of steps of rules in a lapse, or None if there is no lapse."""
        return None if self.run is None else len(self.run)

    def lapse(self):
        """Return a lapse with the least number of steps of rules, a list, or None if there is none."""
        if self.run is None:
            return None
        mail, _, _ = compile_protocol(self.protocol)
        parties, _, _ = self.state
        _, words = config_of(self.protocol, self.state)
        groups = [(state, 1, None) for state in parties]
        return schedule_from(self.protocol, groups, steps_of(mail, words, self.run))
