"""What several tests use: small nets that are made from a seed, and slow but plain reference functions."""

import random
from itertools import permutations, product

from covernets.mail import MailNet
from covernets.nets import Net, enabled, fire
from covernets.parties import is_legal, start_state, take_step
from covernets.protocols import Rule, System

HUGE = 10 ** 30


def staying(places):
    return tuple(range(places))


def plain_net(places, pairs):
    """The plain net with transitions that take and give what the pairs say."""
    return Net(places, [(takes, gives, staying(places)) for takes, gives in pairs])


def small_net(seed, places, transitions, most, moving):
    """A net that is made from a seed; moving is the chance, in tenths, that a place moves its tokens."""
    chooser = random.Random(seed)

    def row():
        return tuple(chooser.randint(1, most) if chooser.random() < 0.4 else 0 for _ in range(places))

    def moves():
        return tuple(
            chooser.randint(-1, places - 1) if chooser.randrange(10) < moving else place for place in range(places)
        )

    return Net(places, [(row(), row(), moves()) for _ in range(transitions)])


def box(size, most):
    """All markings of this size with numbers from 0 to most."""
    return list(product(range(most + 1), repeat=size))


def successors(net, marking):
    return [fire(net, index, marking) for index in range(len(net.transitions)) if enabled(net, index, marking)]


def reachable(net, marking, limit):
    """The set of all reachable markings, or None if there are more than the limit."""
    seen = {marking}
    waiting = [marking]
    while waiting:
        for result in successors(net, waiting.pop()):
            if result not in seen:
                seen.add(result)
                waiting.append(result)
                if len(seen) > limit:
                    return None
    return seen


def small_mail(seed, places, transitions, channels, moving):
    """A mail net that is made from a seed: channels is the list of the numbers of letters."""
    chooser = random.Random(seed + 1000)

    def pairs(chance):
        return [
            (channel, chooser.randrange(letters)) for channel, letters in enumerate(channels) if chooser.random() < chance
        ]

    net = small_net(seed, places, transitions, 2, moving)
    return MailNet(net, channels, [(pairs(0.5), pairs(0.5)) for _ in range(transitions)])


def some_protocol(seed):
    """A protocol that is made from a seed, with any parts from none to the most that are allowed."""
    chooser = random.Random(seed)
    states = ["a", "b2", "c", "dd", "e", "f9"][:chooser.randint(1, 6)]
    variables = [("v", ["x", "y"]), ("lock", ["free", "held", "a"])][:chooser.randint(0, 2)]
    channels = [("box", ["ping", "pong", "x"]), ("q", ["x"])][:chooser.randint(0, 2)]

    def arrows(froms):
        return [(state, chooser.choice(states + ["gone"])) for state in froms]

    def some(owners):
        return [(name, chooser.choice(values)) for name, values in owners if chooser.random() < 0.4]

    def rule(name):
        return Rule(
            name,
            arrows(chooser.choices(states, k=chooser.randint(1, 3))),
            everyone=arrows(chooser.sample(states, chooser.randint(0, min(2, len(states))))),
            born=chooser.choices(states, k=chooser.choice([0, 0, 1, 3])),
            conditions=some(variables), effects=some(variables), hears=some(channels), sends=some(channels),
        )

    def pattern():
        counts = [(state, chooser.randint(1, 9)) for state in chooser.sample(states, chooser.randint(0, len(states)))]
        values = some(variables)
        return (counts, values) if counts or values else ([(states[0], 1)], [])

    rules = [rule(name) for name in ["go", "r1", "r2", "all2", "rule", "bad", "z", "states"][:chooser.randint(0, 8)]]
    bad = [pattern() for _ in range(chooser.randint(0, 4))]
    return System(states, chooser.choice(states), variables, rules, bad, channels=channels)


def active_protocol(seed, states=3, rules=3, most=2, channels=None):
    """A small protocol that is made from a seed, most of whose rules are possible; most bounds the bad counts."""
    chooser = random.Random(seed)
    names = ["a", "b", "c", "d", "e", "f"][:chooser.randint(2, states)]
    variables = [("v", ["x", "y"]), ("w", ["p", "q", "r"])][:chooser.choice([0, 0, 1, 1, 2])]
    channels = [("box", ["s", "t"]), ("tray", ["u"])][:chooser.choice([0, 0, 1, 2]) if channels is None else channels]
    reached = ["a"]
    values = {name: row[:1] for name, row in variables}
    sent = {name: [] for name, _ in channels}

    def arrows(froms):
        return [(state, chooser.choice(names + ["gone"] * (chooser.random() < 0.3))) for state in froms]

    def some(owners, chance):
        return [(name, chooser.choice(row)) for name, row in owners if row and chooser.random() < chance]

    made = []
    for number in range(chooser.randint(0, rules)):
        rule = Rule(
            f"r{number}", arrows(chooser.choices(reached, k=chooser.choice([1, 1, 2, 2, 3]))),
            everyone=arrows(chooser.sample(names, chooser.choice([0, 0, 0, 1]))),
            born=chooser.choices(names, k=chooser.choice([0, 0, 0, 0, 1])),
            conditions=some(values.items(), 0.4), effects=some(variables, 0.4),
            hears=some(sent.items(), 0.5), sends=some(channels, 0.5),
        )
        made.append(rule)
        reached += [to for _, to in rule.actors + rule.everyone if to != "gone"] + list(rule.born)
        for name, value in rule.effects:
            values[name].append(value)
        for name, letter in rule.sends:
            sent[name].append(letter)
    bad = []
    for _ in range(chooser.choice([0, 1, 1, 1, 2])):
        counts = [(state, chooser.randint(1, most)) for state in chooser.sample(names, chooser.randint(1, 2))]
        bad.append((counts, some(variables, 0.3)))
    chooser.shuffle(made)
    return System(names, "a", variables, made, bad, channels=channels)


def legal_steps(protocol, state):
    """All legal steps of a global state."""
    steps = [("lose", channel, at) for channel, word in enumerate(state[2]) for at in range(len(word))]
    for number, rule in enumerate(protocol.rules):
        for acting in permutations(range(len(state[0])), len(rule.actors)):
            if is_legal(protocol, state, ("act", number, acting)):
                steps.append(("act", number, acting))
    return steps


def sorted_state(state):
    """The global state with its parties in order: which ones are in a state never matters."""
    return tuple(sorted(state[0])), state[1], state[2]


def next_states(protocol, state):
    """The global states, with their parties in order, after all legal steps, and whether a rule leads there."""
    found = {}
    for step in legal_steps(protocol, state):
        result = sorted_state(take_step(protocol, state, step))
        found[result] = found.get(result, False) or step[0] == "act"
    return found


def global_states(protocol, count, limit):
    """The set of the global states that can be reached: all, or some if they are too many or have six parties."""
    first = sorted_state(start_state(protocol, count))
    seen = {first}
    waiting = [first]
    for state in waiting:
        for result in next_states(protocol, state):
            if result not in seen and len(seen) < limit and len(result[0]) < 6:
                seen.add(result)
                waiting.append(result)
    return seen
