"""Words, and configurations, which are markings with a word for each channel, and their closed sets (point 31)."""

from covernets.closed import Basis, covers


class ConfigBasis:
    """The least ones of the configurations that were included.

    The markings that come with the same words stand together in a basis of markings.
    """

    def __init__(self, members):
        self.members = {}
        self.shelves = {}
        self.smaller = {}
        for member in sorted(members):
            self.include(member)

    def words_go_with(self, words, other):
        """Return True if a configuration with the words can cover one with the other words, otherwise False."""
        return words_cover(words, other)

    def contains(self, config):
        """Return True if the configuration covers one of the basis, otherwise False."""
        marking, words = config
        for shelf in self.shelves_within(words):
            if shelf.contains(marking):
                return True
        return False

    def shelves_within(self, words):
        """Return the list of the bases of the markings whose words go with these."""
        if words not in self.smaller:
            self.smaller[words] = [shelf for other, shelf in self.shelves.items() if self.words_go_with(words, other)]
        return self.smaller[words]

    def include(self, config):
        """Include the configuration, unless it covers one of the basis; return the list of those that it replaces."""
        if self.contains(config):
            return []
        marking, words = config
        replaced = []
        for other, shelf in self.shelves.items():
            if self.words_go_with(other, words):
                replaced.extend([(member, other) for member in shelf.drop_above(marking)])
        for other in replaced:
            del self.members[other]
        if words not in self.shelves:
            self.put_up(words)
        self.shelves[words].include(marking)
        self.members[config] = True
        return replaced

    def put_up(self, words):
        """Put up an empty basis for the markings that come with these words."""
        shelf = Basis([])
        self.shelves[words] = shelf
        for other in list(self.smaller):
            if self.words_go_with(other, words):
                self.smaller[other].append(shelf)


class ConfigTops(ConfigBasis):
    """The greatest ones of the configurations that were included, given with the negatives of their markings."""

    def words_go_with(self, words, other):
        """Return True if a configuration with the other words can cover one with the words, otherwise False."""
        return words_cover(other, words)


class Beside:
    """A basis of configurations, seen from the markings that come with certain words."""

    def __init__(self, basis, words):
        self.basis = basis
        self.words = words

    def contains(self, marking):
        """Return True if the marking with the words covers one of the basis, otherwise False."""
        return self.basis.contains((marking, self.words))


def is_within(first, second):
    """Return True if the first word is within the second one, otherwise False."""
    left = len(first)
    if left == 0 or left >= len(second):
        return left == 0 or tuple(first) == tuple(second)
    at = 0
    for letter in second:
        if letter == first[at]:
            at += 1
            if at == left:
                return True
    return False


def words_cover(first, second):
    """Return True if each word of the second tuple is within that of the first one, otherwise False."""
    for word, other in zip(first, second):
        if not is_within(other, word):
            return False
    return True


def words_before(action, words):
    """Return the least words from which the action leads to words that cover these."""
    if not words:
        return words
    hears, sends = action
    before = list(words)
    for channel, letter in sends:
        if before[channel][-1:] == (letter,):
            before[channel] = before[channel][:-1]
    for channel, letter in hears:
        before[channel] = (letter,) + before[channel]
    return tuple(before)


def words_after(action, words):
    """Return the greatest words to which the action leads, perhaps after some losses, or None if it cannot be taken."""
    after = list(words)
    hears, sends = action
    for channel, letter in hears:
        if letter not in after[channel]:
            return None
        after[channel] = after[channel][after[channel].index(letter) + 1:]
    for channel, letter in sends:
        after[channel] = after[channel] + (letter,)
    return tuple(after)


def markings_with_empty_words(configs):
    """Return the markings of the configurations all of whose words are empty."""
    return [marking for marking, words in configs if max([len(word) for word in words], default=0) == 0]


def config_covers(first, second):
    """Return True if the first configuration covers the second one, otherwise False."""
    return covers(first[0], second[0]) and words_cover(first[1], second[1])


def config_basis(members):
    """Return the basis of a closed set of configurations, a list in ascending order."""
    return sorted(ConfigBasis(members).members)


def in_config_set(members, config):
    """Return True if the configuration is in the closed set of the members, otherwise False."""
    for member in members:
        if config_covers(config, member):
            return True
    return False
