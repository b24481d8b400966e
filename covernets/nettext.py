"""Texts of nets (point 52)."""

from covernets.errors import InvalidNet
from covernets.nets import Net
from covernets.protocols import DIGITS

SLASH = "/"


def format_net(net):
    """Return the text of a net."""
    lines = [f"places {net.places}"]
    for transition in net.transitions:
        rows = [" ".join([str(number) for number in row]) for row in transition]
        lines.append("transition " + " / ".join(rows))
    return "".join([line + "\n" for line in lines])


def parse_net(text):
    """Return the net that a text writes; raise InvalidNet if the text is not the text of a net."""
    head, *lines = text.split("\n")
    words = head.split(" ")
    if len(words) != 2:
        raise InvalidNet("the first line does not tell the number of places")
    net = Net(_number(words[1]), [_transition(line) for line in lines[:-1]])
    # So nothing is read that is written in another way.
    if format_net(net) != text:
        raise InvalidNet("the text is not written as that of a net")
    return net


def _transition(line):
    """Return the rows of numbers of a line; its first word and its spaces are not looked at here."""
    rows = [[]]
    for word in line.split(" ")[1:]:
        if word == SLASH:
            rows.append([])
        else:
            rows[-1].append(_number(word))
    return rows


def _number(word):
    """Return the number that a word writes."""
    digits = word.removeprefix("-")
    if digits == "":
        raise InvalidNet("a word is no number")
    for character in digits:
        if character not in DIGITS:
            raise InvalidNet("a word is no number")
    return int(word)
