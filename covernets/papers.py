"""Papers: the texts of verdicts, which an audit can confirm (point 45)."""

from covernets.compiler import compile_protocol
from covernets.errors import IllegalStep, PaperSyntaxError
from covernets.mailcover import judge_mail
from covernets.parties import is_bad, play
from covernets.protocols import DIGITS
from covernets.verdicts import decide_protocol

REACHABLE = "reachable"
UNREACHABLE = "unreachable"
LOSE = "lose"
BARRIER = "barrier"
SLASH = "/"

MOST_DIGITS = 3


def paper_of(protocol):
    """Return the paper of a protocol with the verdict on it."""
    verdict = decide_protocol(protocol)
    if verdict.reachable:
        lines = [_line(REACHABLE, [verdict.parties])]
        lines.extend([_step_line(protocol, step) for step in verdict.schedule])
    else:
        lines = [UNREACHABLE] + [_barrier_line(config) for config in verdict.barrier]
    return "".join([line + "\n" for line in lines])


def _line(word, numbers):
    """Return the word and the numbers with a space between them."""
    return " ".join([word] + [str(number) for number in numbers])


def _step_line(protocol, step):
    """Return the line of a step."""
    if step[0] == "lose":
        return _line(LOSE, step[1:])
    return _line(protocol.rules[step[1]].name, step[2])


def _barrier_line(config):
    """Return the line of a configuration of the barrier."""
    marking, words = config
    return " ".join([_line(BARRIER, marking)] + [_line(SLASH, word) for word in words])


def audit(protocol, text):
    """Return True if an audit confirms the claim of the text, otherwise False; raise PaperSyntaxError."""
    *lines, rest = text.split("\n")
    if not lines or rest != "":
        raise PaperSyntaxError("a paper has lines that end with a line feed")
    head, *rows = [line.split(" ") for line in lines]
    if head == [UNREACHABLE]:
        mail, start, goals = compile_protocol(protocol)
        return judge_mail(mail, start, goals, [_config(mail, row) for row in rows])
    if len(head) != 2 or head[0] != REACHABLE:
        raise PaperSyntaxError("the first line tells neither of the two claims")
    return _leads_to_bad(protocol, _number(head[1]), [_step(protocol, row) for row in rows])


def _leads_to_bad(protocol, count, schedule):
    """Return True if the schedule can be played with so many parties and ends in a bad global state, else False."""
    try:
        return is_bad(protocol, play(protocol, count, schedule))
    except IllegalStep:
        return False


def _number(word):
    """Return the number that a word of a line writes."""
    if not 1 <= len(word) <= MOST_DIGITS or (word[0] == "0" and word != "0"):
        raise PaperSyntaxError("a word is no number")
    for character in word:
        if character not in DIGITS:
            raise PaperSyntaxError("a word is no number")
    return int(word)


def _step(protocol, row):
    """Return the step that the words of a line write."""
    numbers = [_number(word) for word in row[1:]]
    if row[0] == LOSE:
        if len(numbers) != 2:
            raise PaperSyntaxError("a loss has two numbers")
        return "lose", numbers[0], numbers[1]
    names = [rule.name for rule in protocol.rules]
    if row[0] not in names:
        raise PaperSyntaxError("there is no such rule")
    index = names.index(row[0])
    if len(numbers) != len(protocol.rules[index].actors):
        raise PaperSyntaxError("a step has a number for each actor of its rule")
    return "act", index, tuple(numbers)


def _config(mail, row):
    """Return the configuration of a barrier that the words of a line write."""
    if row[0] != BARRIER:
        raise PaperSyntaxError("a line of a barrier begins with another word")
    parts = [[]]
    for word in row[1:]:
        if word == SLASH:
            parts.append([])
        else:
            parts[-1].append(_number(word))
    marking, *words = [tuple(part) for part in parts]
    if len(marking) != mail.net.places or len(words) != len(mail.channels):
        raise PaperSyntaxError("a marking or a word is missing, or one is too many")
    for letters, word in zip(mail.channels, words):
        if max(word, default=0) >= letters:
            raise PaperSyntaxError("a channel has no such letter")
    return marking, tuple(words)
