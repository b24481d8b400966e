"""Compilation: protocols become mail nets, global states configurations, and steps schedules (points 41 and 42)."""

from covernets.mail import MailNet
from covernets.nets import Net
from covernets.parties import numbered
from covernets.protocols import GONE


def compile_protocol(protocol):
    """Return the tuple of the mail net of a protocol, its start and its goals."""
    places = _places(protocol)
    net = Net(len(places), [_transition(places, protocol.variables, rule) for rule in protocol.rules])
    actions = [(_letters(protocol, rule.hears), _letters(protocol, rule.sends)) for rule in protocol.rules]
    mail = MailNet(net, [len(letters) for _, letters in protocol.channels], actions)
    base = _tokens(places, [(name, values[0]) for name, values in protocol.variables])
    silence = tuple([() for _ in protocol.channels])
    goals = [(_goal(places, counts, values), silence) for counts, values in protocol.bad]
    return mail, (base, places[protocol.start]), goals


def _places(protocol):
    """Return a dict with the place of each state, and of each pair of a variable and a value."""
    names = list(protocol.states)
    for variable, values in protocol.variables:
        names.extend([(variable, value) for value in values])
    return {name: place for place, name in enumerate(names)}


def _tokens(places, names):
    """Return the marking with a token for each of the names."""
    row = [0] * len(places)
    for name in names:
        row[places[name]] += 1
    return tuple(row)


def _transition(places, variables, rule):
    """Return the transition of a rule."""
    effects = {name: value for name, value in rule.effects}
    takes = [state for state, _ in rule.actors] + list(rule.conditions)
    gives = [target for _, target in rule.actors if target != GONE] + list(rule.born)
    gives.extend([(name, effects.get(name, value)) for name, value in rule.conditions])
    moves = list(range(len(places)))
    for state, target in rule.everyone:
        moves[places[state]] = places.get(target, -1)
    tested = [name for name, _ in rule.conditions]
    for name, values in variables:
        if name in effects and name not in tested:
            for value in values:
                moves[places[(name, value)]] = places[(name, effects[name])]
    return _tokens(places, takes), _tokens(places, gives), tuple(moves)


def _letters(protocol, pairs):
    """Return the pairs of the index of a channel and the number of a letter."""
    rows = [letters for _, letters in protocol.channels]
    return [(channel, rows[channel].index(letter)) for channel, letter in numbered(protocol.channels, pairs)]


def _goal(places, counts, values):
    """Return the marking of a bad pattern."""
    row = list(_tokens(places, values))
    for state, number in counts:
        row[places[state]] = number
    return tuple(row)


def config_of(protocol, state):
    """Return the configuration of a global state."""
    parties, values, words = state
    row = [parties.count(name) for name in protocol.states]
    for (_, names), held in zip(protocol.variables, values):
        row.extend([1 if name == held else 0 for name in names])
    spelled = []
    for (_, letters), word in zip(protocol.channels, words):
        spelled.append(tuple([letters.index(letter) for letter in word]))
    return tuple(row), tuple(spelled)


def schedule_of(protocol, count, steps):
    """Return the schedule of a list of possible steps of the compiled mail net, with the first fitting parties."""
    return schedule_from(protocol, [(protocol.start, count, None)], steps)


def schedule_from(protocol, groups, steps):
    """Return the schedule of a list of steps that are possible with these groups of parties.

    A group is a triple of a state, of how many parties beside each other are in it, and, if they act, of what
    they go to, else None. So it does not matter how many the parties are.
    """
    schedule = []
    groups = list(groups)
    for step in steps:
        if step[0] == "lose":
            schedule.append(tuple(step))
        else:
            rule = protocol.rules[step[1]]
            acting = []
            for state, target in rule.actors:
                acting.append(_choose(groups, state, target))
            schedule.append(("act", step[1], tuple(acting)))
            groups = _after(groups, rule)
    return schedule


def _choose(groups, state, target):
    """Mark the first party that is in the state and is not marked with a target; return its index."""
    first = 0
    for at, (name, many, marked) in enumerate(list(groups)):
        if name == state and marked is None and many > 0:
            groups[at:at + 1] = [(name, 1, target), (name, many - 1, None)]
            break
        first += many
    return first


def _after(groups, rule):
    """Return the groups after a step of the rule, in which the acting parties are marked with their targets."""
    targets = {state: target for state, target in rule.everyone}
    after = []
    for state, many, marked in groups + [(state, 1, state) for state in rule.born]:
        goal = targets.get(state, state) if marked is None else marked
        if many == 0 or goal == GONE:
            continue
        if after and after[-1][0] == goal:
            after[-1] = (goal, after[-1][1] + many, None)
        else:
            after.append((goal, many, None))
    return after
