"""What of a protocol matters from a beginning: the rules that are possible, and sums that no marking exceeds."""

from covernets.compiler import compile_protocol
from covernets.nets import Net
from covernets.protocols import GONE


class Scope:
    """The compiled net of some rules of a protocol, for all that can be reached from the markings of a limit.

    Of the chosen rules, given by their indexes, those that are possible are kept. A cap is a pair of weights and
    of the most that the sum of the numbers of a marking, each times its weight, can be.
    """

    def __init__(self, protocol, chosen, limit):
        mail, _, goals = compile_protocol(protocol)
        filled = [most != 0 for most in limit]
        self.indexes = _possible(mail, chosen, filled)
        self.goals = goals
        self.net = Net(mail.net.places, [mail.net.transitions[index] for index in self.indexes])
        self.actions = [mail.actions[index] for index in self.indexes]
        self.caps = _variable_caps(protocol, mail.net.places)
        if False in filled:
            self.caps.append(([0 if some else 1 for some in filled], 0))
        states = len(protocol.states)
        rules = [protocol.rules[index] for index in self.indexes]
        if -1 not in limit and False not in [_adds_nobody(rule) for rule in rules]:
            self.caps.append(([1] * states, sum(limit[:states])))


def all_rules(protocol):
    """Return the list of the indexes of all rules."""
    return list(range(len(protocol.rules)))


def start_limit(start):
    """Return the limit that admits the start markings with all counts, and those below them."""
    base, free = start
    return tuple([-1 if place == free else number for place, number in enumerate(base)])


def _possible(mail, chosen, filled):
    """Return those of the transitions that are possible; mark in the list which places can be filled."""
    possible = []
    sent = {}
    before = None
    while before != (len(possible), len(sent), filled.count(True)):
        before = (len(possible), len(sent), filled.count(True))
        for index in chosen:
            takes, gives, moves = mail.net.transitions[index]
            hears, sends = mail.actions[index]
            lacking = [place for place, number in enumerate(takes) if number > 0 and not filled[place]]
            if lacking or [pair for pair in hears if pair not in sent]:
                continue
            if index not in possible:
                possible.append(index)
            for pair in sends:
                sent[pair] = True
            for place, target in enumerate(moves):
                if gives[place] > 0:
                    filled[place] = True
                if filled[place] and target != -1:
                    filled[target] = True
    return sorted(possible)


def _variable_caps(protocol, places):
    """Return the caps that say that there is one token only for the value of each variable."""
    caps = []
    first = len(protocol.states)
    for _, values in protocol.variables:
        caps.append(([1 if first <= place < first + len(values) else 0 for place in range(places)], 1))
        first += len(values)
    return caps


def _adds_nobody(rule):
    """Return True if there are never more parties after a step of the rule than before, otherwise False."""
    staying = [target for _, target in rule.actors if target != GONE]
    return len(staying) + len(rule.born) <= len(rule.actors)
