"""The errors of the program."""


class CoverError(ValueError):
    """The base class of all errors of the program."""


class InvalidNet(CoverError):
    """Something that is passed for a net is refused."""


class NotPlain(CoverError):
    """The net is not plain, but what was asked for is told of plain nets only."""


class TooMany(CoverError):
    """A graph has more markings than allowed."""


class InvalidProtocol(CoverError):
    """Something that is passed for a protocol is refused."""


class PaperSyntaxError(CoverError):
    """A text does not have the form of a paper."""


class NotEnabled(CoverError):
    """Something cannot be fired; position tells which item of the list it is."""

    def __init__(self, position):
        self.position = position


class IllegalStep(CoverError):
    """A step is not legal; position tells which item of the schedule it is."""

    def __init__(self, position):
        self.position = position


class ProtocolSyntaxError(CoverError):
    """A text is not the text of a protocol; line is the index of the first wrong line."""

    def __init__(self, line):
        self.line = line
