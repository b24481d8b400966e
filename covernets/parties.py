"""Global states of protocols, their steps and schedules (points 37 and 38)."""

from covernets.errors import IllegalStep
from covernets.mail import can_lose, heard_and_sent, hears_first, without_letter
from covernets.protocols import GONE


def start_state(protocol, count):
    """Return the global state at the beginning with count parties."""
    values = tuple([row[0] for _, row in protocol.variables])
    return (protocol.start,) * count, values, tuple([() for _ in protocol.channels])


def is_legal(protocol, state, step):
    """Return True if the step is legal, otherwise False."""
    parties, values, words = state
    if step[0] == "lose":
        return can_lose(words, step[1], step[2])
    _, number, acting = step
    if not 0 <= number < len(protocol.rules):
        return False
    rule = protocol.rules[number]
    if not _can_act(parties, rule.actors, acting):
        return False
    held = {name: value for (name, _), value in zip(protocol.variables, values)}
    for name, value in rule.conditions:
        if held[name] != value:
            return False
    return hears_first(words, numbered(protocol.channels, rule.hears))


def _can_act(parties, actors, acting):
    """Return True if these are different parties in the states of the actors, otherwise False."""
    if len(acting) != len(actors) or len(set(acting)) != len(acting):
        return False
    for party, (state, _) in zip(acting, actors):
        if not 0 <= party < len(parties) or parties[party] != state:
            return False
    return True


def numbered(owners, pairs):
    """Return the pairs with the indexes of the owners instead of their names."""
    indexes = {name: index for index, (name, _) in enumerate(owners)}
    return [(indexes[name], value) for name, value in pairs]


def take_step(protocol, state, step):
    """Return the global state after the step; raise IllegalStep with position 0."""
    if not is_legal(protocol, state, step):
        raise IllegalStep(0)
    parties, values, words = state
    if step[0] == "lose":
        return parties, values, without_letter(words, step[1], step[2])
    _, number, acting = step
    rule = protocol.rules[number]
    effects = {name: value for name, value in rule.effects}
    after = [effects.get(name, value) for (name, _), value in zip(protocol.variables, values)]
    hears = numbered(protocol.channels, rule.hears)
    sends = numbered(protocol.channels, rule.sends)
    return _parties_after(parties, rule, acting), tuple(after), heard_and_sent(words, hears, sends)


def _parties_after(parties, rule, acting):
    """Return the states of the parties after a step of the rule."""
    targets = {state: target for state, target in rule.everyone}
    after = [targets.get(state, state) for state in parties]
    for party, (_, target) in zip(acting, rule.actors):
        after[party] = target
    return tuple([state for state in after if state != GONE]) + rule.born


def play(protocol, count, schedule):
    """Return the global state after a schedule from the beginning; raise IllegalStep with the index of the step."""
    state = start_state(protocol, count)
    for position, step in enumerate(schedule):
        try:
            state = take_step(protocol, state, step)
        except IllegalStep:
            raise IllegalStep(position) from None
    return state


def is_bad(protocol, state):
    """Return True if the global state is bad, otherwise False."""
    for counts, values in protocol.bad:
        if _fits(protocol, state, counts, values):
            return True
    return False


def _fits(protocol, state, counts, values):
    """Return True if the global state has what the pattern tells, otherwise False."""
    parties, held, _ = state
    for name, number in counts:
        if parties.count(name) < number:
            return False
    for index, value in numbered(protocol.variables, values):
        if held[index] != value:
            return False
    return True
