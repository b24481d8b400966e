"""The text of a protocol (points 39 and 40)."""

from covernets.errors import InvalidProtocol, ProtocolSyntaxError
from covernets.protocols import DIGITS, LETTERS, Rule, System

ARROW = "->"
SIGNS = (",", ":", "=")

# What a line may begin with, in the order of the lines.
KINDS = ("states", "start", "shared", "channel", "rule", "bad")


def format_protocol(protocol):
    """Return the text of a protocol."""
    lines = [_spaced(["states"] + list(protocol.states)), _spaced(["start", protocol.start])]
    for name, values in protocol.variables:
        lines.append(_spaced(["shared", name] + list(values)))
    for name, letters in protocol.channels:
        lines.append(_spaced(["channel", name] + list(letters)))
    lines.extend([_rule_line(rule) for rule in protocol.rules])
    for counts, values in protocol.bad:
        pairs = [f"{state} {number}" for state, number in counts] + _joined(" = ", values)
        lines.append("bad " + ", ".join(pairs))
    return "".join([line + "\n" for line in lines])


def _spaced(words):
    """Return the words with a space between them."""
    return " ".join(words)


def _rule_line(rule):
    """Return the line of a rule."""
    line = f"rule {rule.name}: " + ", ".join(_joined(" -> ", rule.actors))
    parts = [
        ("all", _joined(" -> ", rule.everyone)),
        ("new", list(rule.born)),
        ("if", _joined(" = ", rule.conditions)),
        ("set", _joined(" = ", rule.effects)),
        ("hear", _joined(" = ", rule.hears)),
        ("send", _joined(" = ", rule.sends)),
    ]
    for word, items in parts:
        if items:
            line = f"{line} {word} " + ", ".join(items)
    return line


def _joined(sign, pairs):
    """Return the list of the texts of the pairs, with the sign between their two words."""
    return [first + sign + second for first, second in pairs]


def parse_protocol(text):
    """Return the protocol that a text writes; raise ProtocolSyntaxError with the index of the first wrong line."""
    *lines, rest = text.split("\n")
    parts = {kind: [] for kind in KINDS}
    for number, line in enumerate(lines):
        reader = Reader(number, _tokens(number, line))
        kind = reader.word()
        _check_place(number, kind, parts)
        parts[kind].append(reader.part(kind))
        if not reader.is_done():
            raise ProtocolSyntaxError(number)
        # A condition that the lines so far break is one that this line breaks.
        _system_of(number, parts)
    if len(lines) < 2 or rest != "":
        raise ProtocolSyntaxError(len(lines))
    return _system_of(len(lines), parts)


def _check_place(number, kind, parts):
    """Raise ProtocolSyntaxError if no line of this kind can stand in the line with this number."""
    if kind not in KINDS:
        raise ProtocolSyntaxError(number)
    at = KINDS.index(kind)
    if min(number, 2) != min(at, 2):
        raise ProtocolSyntaxError(number)
    for later in KINDS[at + 1:]:
        if parts[later]:
            raise ProtocolSyntaxError(number)


def _system_of(number, parts):
    """Return the protocol of the lines so far; raise ProtocolSyntaxError if something is refused."""
    states = parts["states"][0]
    start = parts["start"][0] if parts["start"] else states[:1]
    if len(start) != 1:
        raise ProtocolSyntaxError(number)
    try:
        return System(
            states, start[0], _named(parts["shared"]), parts["rule"], parts["bad"], channels=_named(parts["channel"])
        )
    except InvalidProtocol:
        raise ProtocolSyntaxError(number) from None


def _named(rows):
    """Return pairs of the first word of each row and the others."""
    return [(row[0], row[1:]) for row in rows]


def _tokens(number, line):
    """Return the list of the tokens of a line; raise ProtocolSyntaxError if there is something else."""
    tokens = []
    at = 0
    while at < len(line):
        if line[at] == " ":
            at += 1
            continue
        end = at + 1
        if line[at] in LETTERS:
            while end < len(line) and (line[end] in LETTERS or line[end] in DIGITS):
                end += 1
        elif line[at:at + 2] == ARROW:
            end += 1
        elif line[at] in DIGITS:
            if line[at] == "0" or (end < len(line) and line[end] in DIGITS):
                raise ProtocolSyntaxError(number)
        elif line[at] not in SIGNS:
            raise ProtocolSyntaxError(number)
        tokens.append(line[at:end])
        at = end
    return tokens


class Reader:
    """Reads the tokens of a line from left to right."""

    def __init__(self, line, tokens):
        self.line = line
        self.tokens = tokens
        self.at = 0

    def is_done(self):
        """Return True if all tokens have been read, otherwise False."""
        return self.at == len(self.tokens)

    def starts(self, begin):
        """Return True if the next token begins with one of the characters, otherwise False."""
        return not self.is_done() and self.tokens[self.at][0] in begin

    def token(self):
        """Return the next token; raise ProtocolSyntaxError if there is none."""
        if self.is_done():
            raise ProtocolSyntaxError(self.line)
        self.at += 1
        return self.tokens[self.at - 1]

    def word(self):
        """Return the next token, which has to be a word."""
        if not self.starts(LETTERS):
            raise ProtocolSyntaxError(self.line)
        return self.token()

    def sign(self, expected):
        """Pass the next token, which has to be the one that is expected."""
        if self.token() != expected:
            raise ProtocolSyntaxError(self.line)

    def part(self, kind):
        """Return what a line of this kind tells behind its first word."""
        if kind == "rule":
            return self.rule()
        if kind == "bad":
            return self.pattern()
        words = [self.word()]
        while not self.is_done():
            words.append(self.word())
        return words

    def rule(self):
        """Return the rule of a line."""
        name = self.word()
        self.sign(":")
        actors = self.pairs(ARROW)
        everyone = self.pairs_behind("all", ARROW)
        born = self.words_behind("new")
        conditions = self.pairs_behind("if", "=")
        effects = self.pairs_behind("set", "=")
        hears = self.pairs_behind("hear", "=")
        sends = self.pairs_behind("send", "=")
        return Rule(
            name, actors, everyone=everyone, born=born, conditions=conditions, effects=effects, hears=hears, sends=sends
        )

    def passes(self, token):
        """Pass the next token if it is this one; return True if it was, otherwise False."""
        if self.is_done() or self.tokens[self.at] != token:
            return False
        self.at += 1
        return True

    def pairs_behind(self, word, sign):
        """Return the pairs that follow if the word stands here, otherwise none."""
        return self.pairs(sign) if self.passes(word) else []

    def words_behind(self, word):
        """Return the words that follow, with commas between them, if the word stands here, otherwise none."""
        if not self.passes(word):
            return []
        words = [self.word()]
        while self.passes(","):
            words.append(self.word())
        return words

    def pairs(self, sign):
        """Return pairs of two words with the sign between them, with commas between the pairs."""
        pairs = [self.pair(sign)]
        while self.passes(","):
            pairs.append(self.pair(sign))
        return pairs

    def pair(self, sign):
        """Return a pair of two words with the sign between them."""
        first = self.word()
        self.sign(sign)
        return first, self.word()

    def pattern(self):
        """Return the bad pattern of a line, its pairs sorted into counts and values."""
        counts = []
        values = []
        more = True
        while more:
            name = self.word()
            if self.starts(DIGITS):
                counts.append((name, int(self.token())))
            else:
                self.sign("=")
                values.append((name, self.word()))
            more = self.passes(",")
        return counts, values
