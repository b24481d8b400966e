"""Markings and closed sets of markings (points 5 to 7).

A closed set is given by a list of members: it contains all markings that cover a member.
"""

# Bits are given anew when so many more were given than twice as many as there are markings left.
SPARE = 64


class Basis:
    """The least ones of the markings that were included.

    Each one has a bit. For each place there are the numbers that the markings have there, in ascending order,
    and for each of them the bits of the markings with at most this number. So a marking is compared with all of
    them at once.
    """

    def __init__(self, members):
        self.members = {}
        self.clear_bits()
        for member in sorted(members):
            self.include(member)

    def clear_bits(self):
        """Forget the bits of all markings."""
        self.rows = []
        self.present = 0
        self.numbers = []
        self.bits = []

    def contains(self, marking):
        """Return True if the marking covers one of the basis, otherwise False."""
        found = self.present
        if found == 0:
            return False
        for number, known, masks in zip(marking, self.numbers, self.bits):
            if number < known[0]:
                return False
            if number < known[-1]:
                at = _count_less(known, number)
                found = found & masks[at if known[at] == number else at - 1]
                if found == 0:
                    return False
        return True

    def include(self, marking):
        """Include the marking, unless it covers one of the basis; return the list of those that it replaces."""
        if self.contains(marking):
            return []
        replaced = self.drop_above(marking)
        if len(self.rows) > 2 * len(self.members) + SPARE:
            self.pack()
        self.give_bit(marking)
        return replaced

    def give_bit(self, marking):
        """Give a bit to the marking, which is a new one of the basis."""
        if not self.numbers:
            self.numbers = [[] for _ in marking]
            self.bits = [[] for _ in marking]
        bit = 1 << len(self.rows)
        self.rows.append(marking)
        self.present = self.present | bit
        self.members[marking] = True
        for number, known, masks in zip(marking, self.numbers, self.bits):
            at = _count_less(known, number)
            if at == len(known) or known[at] != number:
                known.insert(at, number)
                masks.insert(at, masks[at - 1] if at > 0 else 0)
            for other in range(at, len(masks)):
                masks[other] = masks[other] | bit

    def drop_above(self, marking):
        """Drop those of the basis that cover the marking; return the list of them."""
        found = self.present
        for number, known, masks in zip(marking, self.numbers, self.bits):
            at = _count_less(known, number)
            if at > 0:
                found = found & ~masks[at - 1]
        self.present = self.present & ~found
        dropped = []
        while found != 0:
            last = found.bit_length() - 1
            dropped.append(self.rows[last])
            found = found ^ (1 << last)
        for other in dropped:
            del self.members[other]
        return dropped

    def pack(self):
        """Give new bits to the markings of the basis, and none to those that were dropped."""
        self.clear_bits()
        for member in list(self.members):
            self.give_bit(member)


def _count_less(numbers, number):
    """Return how many of the numbers, which are in ascending order, are less than the number."""
    low = 0
    high = len(numbers)
    while low < high:
        middle = (low + high) // 2
        if numbers[middle] < number:
            low = middle + 1
        else:
            high = middle
    return low


def covers(first, second):
    """Return True if the first marking covers the second one, otherwise False."""
    for number, other in zip(first, second):
        if number < other:
            return False
    return True


def basis_of(members):
    """Return the basis of a closed set: its least markings in ascending order."""
    return sorted(Basis(members).members)


def in_closed(members, marking):
    """Return True if the marking is in the closed set of the members, otherwise False."""
    for member in members:
        if covers(marking, member):
            return True
    return False


def meet(first, second):
    """Return the basis of the markings that are in both of two closed sets."""
    return basis_of([_join(one, other) for one in basis_of(first) for other in basis_of(second)])


def _join(one, other):
    """Return the least marking that covers both."""
    return tuple([max(number, wanted) for number, wanted in zip(one, other)])


def closed_within(first, second):
    """Return True if each marking of the first closed set is in the second one, otherwise False."""
    known = Basis(second)
    for member in first:
        if not known.contains(member):
            return False
    return True
