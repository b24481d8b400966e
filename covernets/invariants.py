"""Sums that no firing changes: invariants and semiflows of plain nets (points 24 and 25)."""

from math import gcd, lcm

from covernets.runs import effects


def invariant_basis(net):
    """Return the invariant basis, a list of tuples."""
    solved = _solved(effects(net))
    free = [place for place in range(net.places) if place not in solved]
    return [_row_of(net.places, solved, place) for place in free]


def _solved(equations):
    """Return equations that say the same, by the last place of each, which stands in no other one."""
    solved = {}
    for equation in equations:
        for place in sorted(solved):
            equation = _without(equation, solved[place], place)
        left = [place for place, number in enumerate(equation) if number != 0]
        if left:
            solved = {place: _without(other, equation, left[-1]) for place, other in solved.items()}
            solved[left[-1]] = equation
    return solved


def _without(equation, other, place):
    """Return the sum of multiples of both equations in which the place does not stand; the first one not 0 times."""
    return divided([other[place] * one - equation[place] * two for one, two in zip(equation, other)])


def divided(numbers):
    """Return the tuple of the numbers, divided by the greatest integer that divides all of them."""
    divisor = 0
    for number in numbers:
        divisor = gcd(divisor, number)
    return tuple([number // max(1, divisor) for number in numbers])


def _row_of(places, solved, free):
    """Return the invariant that has a number at the free place and at places of solved equations only."""
    scale = 1
    for place, equation in solved.items():
        scale = lcm(scale, equation[place])
    row = [0] * places
    row[free] = scale
    for place, equation in solved.items():
        row[place] = -equation[free] * scale // equation[place]
    return divided(row)


def minimal_semiflows(net):
    """Return the minimal semiflows in ascending order."""
    changes = effects(net)
    rows = [tuple([1 if other == place else 0 for other in range(net.places)]) for place in range(net.places)]
    for change in changes:
        rows = _balanced(rows, change)
    return sorted(rows)


def _balanced(rows, change):
    """Return the minimal rows without negative numbers that are sums of the rows and that the change leaves as is."""
    known = {}
    up = []
    down = []
    for row in rows:
        value = sum([number * step for number, step in zip(row, change)])
        if value == 0:
            known[support(row)] = row
        elif value > 0:
            up.append((support(row), value, row))
        else:
            down.append((support(row), -value, row))
    for places, value, row in up:
        for others, loss, other in down:
            # A minimal row is the only one with its support, but for multiples.
            if places | others not in known:
                known[places | others] = divided([loss * one + value * two for one, two in zip(row, other)])
    return [known[places] for places in least_parts(known)]


def support(row):
    """Return the support of a row, as a number with a bit for each place."""
    return sum([1 << place for place, number in enumerate(row) if number != 0])


def least_parts(parts):
    """Return those of the sets of places, given as numbers with a bit for each place, that contain no other one."""
    least = []
    # A part of a set has a smaller number.
    for places in sorted(parts):
        if not _has_part(least, places):
            least.append(places)
    return least


def _has_part(parts, places):
    """Return True if one of the sets is a part of the places, otherwise False."""
    for part in parts:
        if part & places == part:
            return True
    return False
