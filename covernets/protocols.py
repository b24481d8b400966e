"""Protocols: states, variables, channels, rules and bad patterns (points 35 and 36)."""

from covernets.errors import InvalidProtocol

LETTERS = "abcdefghijklmnopqrstuvwxyz"
DIGITS = "0123456789"
WORDS_THAT_ARE_NO_NAMES = ("all", "new", "if", "set", "hear", "send", "lose", "gone")

# What a party that leaves goes to, instead of a state.
GONE = "gone"

MOST_STATES = 6
MOST_VARIABLES = 2
LEAST_VALUES = 2
MOST_VALUES = 3
MOST_CHANNELS = 2
MOST_LETTERS = 3
MOST_RULES = 8
MOST_PATTERNS = 4
MOST_ACTORS = 3
MOST_BORN = 3
MOST_COUNTED = 9


class Rule:
    """A rule: how actors, and everyone else, go on; who is born; what has to hold, and what is done."""

    def __init__(self, name, actors, *, everyone=(), born=(), conditions=(), effects=(), hears=(), sends=()):
        self.name = name
        self.actors = _pairs(actors)
        self.everyone = _pairs(everyone)
        self.born = tuple(born)
        self.conditions = _pairs(conditions)
        self.effects = _pairs(effects)
        self.hears = _pairs(hears)
        self.sends = _pairs(sends)


def _pairs(pairs):
    """Return a copy of the pairs."""
    return tuple([tuple(pair) for pair in pairs])


class System:
    """A protocol; raises InvalidProtocol if anything is refused."""

    def __init__(self, states, start, variables, rules, bad, *, channels=()):
        self.states = tuple(states)
        self.start = start
        self.variables = _named_lists(variables)
        self.channels = _named_lists(channels)
        self.rules = tuple(rules)
        self.bad = tuple([tuple([_pairs(pairs) for pairs in pattern]) for pattern in bad])
        _check_states(self)
        _check_names(self)
        if len(self.rules) > MOST_RULES:
            raise InvalidProtocol(f"a protocol has at most {MOST_RULES} rules")
        _check_different([rule.name for rule in self.rules])
        for rule in self.rules:
            _check_rule(self, rule)
        if len(self.bad) > MOST_PATTERNS:
            raise InvalidProtocol(f"a protocol has at most {MOST_PATTERNS} bad patterns")
        for pattern in self.bad:
            _check_pattern(self, pattern)


def _named_lists(pairs):
    """Return a copy of the pairs of a name and a list; raise InvalidProtocol if one is no pair."""
    copies = []
    for pair in pairs:
        if len(pair) != 2:
            raise InvalidProtocol("variables and channels are pairs")
        name, values = pair
        copies.append((name, tuple(values)))
    return tuple(copies)


def is_name(word):
    """Return True if the string is a name, otherwise False."""
    if not word or word[0] not in LETTERS or word in WORDS_THAT_ARE_NO_NAMES:
        return False
    for character in word:
        if character not in LETTERS and character not in DIGITS:
            return False
    return True


def _check_different(names):
    """Raise InvalidProtocol unless all of the words are names, each another one."""
    seen = {}
    for name in names:
        if not is_name(name):
            raise InvalidProtocol("a word is no name")
        if name in seen:
            raise InvalidProtocol("a name occurs twice")
        seen[name] = True


def _check_states(protocol):
    """Raise InvalidProtocol if the states or the start state are refused."""
    if not 1 <= len(protocol.states) <= MOST_STATES:
        raise InvalidProtocol(f"a protocol has from 1 to {MOST_STATES} states")
    if protocol.start not in protocol.states:
        raise InvalidProtocol("the start state is no state")


def _check_names(protocol):
    """Raise InvalidProtocol if states, variables or channels are refused."""
    if len(protocol.variables) > MOST_VARIABLES:
        raise InvalidProtocol(f"a protocol has at most {MOST_VARIABLES} variables")
    if len(protocol.channels) > MOST_CHANNELS:
        raise InvalidProtocol(f"a protocol has at most {MOST_CHANNELS} channels")
    owners = protocol.variables + protocol.channels
    _check_different(list(protocol.states) + [name for name, _ in owners])
    for _, values in owners:
        _check_different(values)
    for _, values in protocol.variables:
        if not LEAST_VALUES <= len(values) <= MOST_VALUES:
            raise InvalidProtocol(f"a variable has from {LEAST_VALUES} to {MOST_VALUES} values")
    for _, letters in protocol.channels:
        if not 1 <= len(letters) <= MOST_LETTERS:
            raise InvalidProtocol(f"a channel has from 1 to {MOST_LETTERS} letters")


def _check_rule(protocol, rule):
    """Raise InvalidProtocol if the rule is refused; its name is checked elsewhere."""
    if not 1 <= len(rule.actors) <= MOST_ACTORS:
        raise InvalidProtocol(f"a rule has from 1 to {MOST_ACTORS} actors")
    if len(rule.born) > MOST_BORN:
        raise InvalidProtocol(f"at most {MOST_BORN} parties are born")
    targets = protocol.states + (GONE,)
    for pair in rule.actors + rule.everyone:
        if len(pair) != 2 or pair[0] not in protocol.states or pair[1] not in targets:
            raise InvalidProtocol("a pair does not lead from a state to a state")
    _check_firsts(rule.everyone)
    for state in rule.born:
        if state not in protocol.states:
            raise InvalidProtocol("a party is born in a state that is not there")
    _check_choices(protocol.variables, rule.conditions)
    _check_choices(protocol.variables, rule.effects)
    _check_choices(protocol.channels, rule.hears)
    _check_choices(protocol.channels, rule.sends)


def _check_firsts(pairs):
    """Raise InvalidProtocol if two of the pairs begin with the same name."""
    _check_different([pair[0] for pair in pairs])


def _check_choices(owners, pairs):
    """Raise InvalidProtocol unless the pairs say, for different ones of the owners, one of the names they have."""
    values = {name: row for name, row in owners}
    for pair in pairs:
        if len(pair) != 2 or pair[0] not in values or pair[1] not in values[pair[0]]:
            raise InvalidProtocol("there is no such variable or channel, or it has no such value or letter")
    _check_firsts(pairs)


def _check_pattern(protocol, pattern):
    """Raise InvalidProtocol if the bad pattern is refused."""
    if len(pattern) != 2:
        raise InvalidProtocol("a bad pattern consists of counts and values")
    counts, values = pattern
    if not counts and not values:
        raise InvalidProtocol("a bad pattern has at least one pair")
    for pair in counts:
        if len(pair) != 2 or pair[0] not in protocol.states or not 1 <= pair[1] <= MOST_COUNTED:
            raise InvalidProtocol(f"a count has a state and a number from 1 to {MOST_COUNTED}")
    _check_firsts(counts)
    _check_choices(protocol.variables, values)
