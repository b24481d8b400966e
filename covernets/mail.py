"""Mail nets: nets whose transitions hear and send letters through channels that may lose them (point 32)."""

from covernets.errors import InvalidNet, NotEnabled
from covernets.nets import enabled, fire

MOST_CHANNELS = 2
MOST_LETTERS = 4


class MailNet:
    """A net with channels, given by their numbers of letters, and an action (hears, sends) for each transition."""

    def __init__(self, net, channels, actions):
        if len(channels) > MOST_CHANNELS:
            raise InvalidNet(f"a mail net has at most {MOST_CHANNELS} channels")
        for letters in channels:
            if not 1 <= letters <= MOST_LETTERS:
                raise InvalidNet(f"a channel has from 1 to {MOST_LETTERS} letters")
        if len(actions) != len(net.transitions):
            raise InvalidNet("a mail net has an action for each transition")
        self.net = net
        self.channels = tuple(channels)
        self.actions = tuple([_checked(action, channels) for action in actions])


def _checked(action, channels):
    """Return a copy of the action, or raise InvalidNet."""
    if len(action) != 2:
        raise InvalidNet("an action consists of hears and sends")
    hears, sends = action
    return _checked_pairs(hears, channels), _checked_pairs(sends, channels)


def _checked_pairs(pairs, channels):
    """Return a copy of the pairs of a channel and a letter, or raise InvalidNet."""
    copies = []
    seen = {}
    for pair in pairs:
        if len(pair) != 2:
            raise InvalidNet("hears and sends consist of pairs")
        channel, letter = pair
        if not 0 <= channel < len(channels) or not 0 <= letter < channels[channel]:
            raise InvalidNet("there is no such channel or no such letter in it")
        if channel in seen:
            raise InvalidNet("a channel occurs twice")
        seen[channel] = True
        copies.append((channel, letter))
    return tuple(copies)


def can_take(mail, config, step):
    """Return True if the step is possible in the configuration, otherwise False."""
    marking, words = config
    if step[0] == "lose":
        return can_lose(words, step[1], step[2])
    index = step[1]
    if not 0 <= index < len(mail.actions) or not enabled(mail.net, index, marking):
        return False
    return hears_first(words, mail.actions[index][0])


def can_lose(words, channel, position):
    """Return True if there is a letter at the position of the channel, otherwise False."""
    return 0 <= channel < len(words) and 0 <= position < len(words[channel])


def hears_first(words, hears):
    """Return True if the word of each channel begins with the letter that is to be heard, otherwise False."""
    for channel, letter in hears:
        if words[channel][:1] != (letter,):
            return False
    return True


def without_letter(words, channel, position):
    """Return the words after the letter at the position of the channel has vanished."""
    word = words[channel]
    return words[:channel] + (word[:position] + word[position + 1:],) + words[channel + 1:]


def heard_and_sent(words, hears, sends):
    """Return the words after letters have been heard at the beginnings, and then letters have been sent."""
    result = list(words)
    for channel, _ in hears:
        result[channel] = result[channel][1:]
    for channel, letter in sends:
        result[channel] = result[channel] + (letter,)
    return tuple(result)


def take_mail(mail, config, steps):
    """Return the configuration after a list of steps; raise NotEnabled with the index of the step."""
    marking, words = config
    for position, step in enumerate(steps):
        if not can_take(mail, (marking, words), step):
            raise NotEnabled(position)
        if step[0] == "lose":
            words = without_letter(words, step[1], step[2])
        else:
            marking = fire(mail.net, step[1], marking)
            hears, sends = mail.actions[step[1]]
            words = heard_and_sent(words, hears, sends)
    return marking, words
