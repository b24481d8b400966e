"""Markings and closed sets of markings (points 5 to 7).

A closed set is given by a list of members: it contains all markings that cover a member.
"""


class Basis:
    """The least ones of the markings that were included.

    They stand in a tree with a level for each place and a branch for each number of tokens in it, so
    that a marking need not be compared with all of them one by one.
    """

    def __init__(self, members):
        self.members = {}
        self.tree = {}
        for member in sorted(members):
            self.include(member)

    def contains(self, marking):
        """Return True if the marking covers one of the basis, otherwise False."""
        return _has_below(self.tree, marking, 0)

    def include(self, marking):
        """Include the marking, unless it covers one of the basis; return the list of those that it replaces."""
        if self.contains(marking):
            return []
        replaced = self.drop_above(marking)
        self.members[marking] = True
        branch = self.tree
        for number in marking[:-1]:
            branch = branch.setdefault(number, {})
        branch[marking[-1]] = marking
        return replaced

    def drop_above(self, marking):
        """Drop those of the basis that cover the marking; return the list of them."""
        dropped = _all_above(self.tree, marking, 0)
        for other in dropped:
            self.drop(other)
        return dropped

    def drop(self, marking):
        """Drop a marking of the basis, and the branches of the tree that are empty then."""
        del self.members[marking]
        branches = [self.tree]
        for number in marking[:-1]:
            branches.append(branches[-1][number])
        for place in reversed(range(len(marking))):
            del branches[place][marking[place]]
            if branches[place]:
                return


def _has_below(branch, marking, place):
    """Return True if a marking of the branch has, from the place on, at most the numbers of the marking."""
    most = marking[place]
    last = place == len(marking) - 1
    for number, smaller in branch.items():
        if number <= most and (last or _has_below(smaller, marking, place + 1)):
            return True
    return False


def _all_above(branch, marking, place):
    """Return the markings of the branch that have, from the place on, at least the numbers of the marking."""
    found = []
    last = place == len(marking) - 1
    for number, smaller in branch.items():
        if number >= marking[place]:
            found.extend([smaller] if last else _all_above(smaller, marking, place + 1))
    return found


def covers(first, second):
    """Return True if the first marking covers the second one, otherwise False."""
    for number, other in zip(first, second):
        if number < other:
            return False
    return True


def basis_of(members):
    """Return the basis of a closed set: its least markings in ascending order."""
    return sorted(Basis(members).members)


def in_closed(members, marking):
    """Return True if the marking is in the closed set of the members, otherwise False."""
    for member in members:
        if covers(marking, member):
            return True
    return False


def meet(first, second):
    """Return the basis of the markings that are in both of two closed sets."""
    return basis_of([_join(one, other) for one in basis_of(first) for other in basis_of(second)])


def _join(one, other):
    """Return the least marking that covers both."""
    return tuple([max(number, wanted) for number, wanted in zip(one, other)])


def closed_within(first, second):
    """Return True if each marking of the first closed set is in the second one, otherwise False."""
    known = Basis(second)
    for member in first:
        if not known.contains(member):
            return False
    return True
