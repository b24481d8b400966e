"""Plans for plain nets whose limits have great numbers: how often transitions may be fired, and in what order.

What a run changes is the sum of the effects of its transitions. So a run leads to a goal only if some numbers
of firings do, and these can be found however great they are. The order of the firings is only tried: a plan
may be missed, but one that is found can be fired.
"""

from covernets.closed import covers
from covernets.reduction import possible_transitions
from covernets.runs import need_and_effect, shifted, spread

# From this number on, plans are made before limits are tried one by one.
GREAT = 1000

# So many times, numbers of firings that are not whole are cut off.
CUTS = 40

# So many rounds are planned, and rounds with so many firings are repeated.
ROUNDS = 100
LONGEST_ROUND = 400


def has_great_numbers(limit):
    """Return True if some number of the limit is great, otherwise False."""
    return max(limit) >= GREAT


def best_plan(net, limit, place):
    """Return the pair of a number that the place can never exceed, None if not known, and of a number it can have."""
    possible = possible_transitions(net, [most != 0 for most in limit])
    finite = [other for other, most in enumerate(limit) if most != -1]
    effects = [need_and_effect(net, (index,))[1] for index in possible]
    rows = [[-change[other] for change in effects] for other in finite]
    best = maximize(rows, [limit[other] for other in finite], [change[place] for change in effects])
    if best is None:
        return None, limit[place]
    counts, gain = best
    _, reached = _fired_by_plan(net, limit, possible, counts)
    return limit[place] + gain, reached[place]


def plan_to(net, limit, goal):
    """Return a pair: False if the goal is within no limit of the limit set, else True; and parts to it, or None."""
    finite = [place for place, most in enumerate(limit) if most != -1]
    growing = [place for place in finite if goal[place] == -1]
    for place in growing:
        if best_plan(net, limit, place)[0] is not None:
            return False, None
    possible = possible_transitions(net, [most != 0 for most in limit])
    effects = [need_and_effect(net, (index,))[1] for index in possible]
    # The last variable is 1 if the goal is reached, else 0.
    rows = [[-change[place] for change in effects] + [max(0, goal[place])] for place in finite]
    rows.append([0] * len(possible) + [1])
    aims = [0] * len(possible) + [1]
    counts, value = maximize(rows, [limit[place] for place in finite] + [1], aims)
    if value == 0:
        return False, None
    parts, reached = _fired_by_plan(net, limit, possible, counts[:-1])
    missed = [place for place in finite if reached[place] < goal[place]]
    return True, parts if not missed and not growing else None


def least_firings(net, marking, goal):
    """Return a pair: what each run to the goal has at least as its length, None if there is no run; and parts.

    The parts lead to the goal with so many firings, or are None if no such ones were found.
    """
    changes = [need_and_effect(net, (index,))[1] for index in range(len(net.transitions))]
    rows = [[-change[place] for change in changes] for place in range(net.places)]
    best = least_numbers(rows, [number - wanted for number, wanted in zip(marking, goal)], len(changes))
    if best is None:
        return None, None
    counts, least = best
    parts, reached = _fired_by_plan(net, tuple(marking), list(range(len(changes))), counts)
    return least, parts if sum(counts) == least and covers(reached, goal) else None


def _fired_by_plan(net, limit, indexes, counts):
    """Return the parts with which transitions are fired as often as told, if possible, and the limit they lead to."""
    left = {index: count for index, count in zip(indexes, counts)}
    parts = []
    for _ in range(ROUNDS):
        round_parts = []
        for index in indexes:
            times = _times_possible(net, limit, (index,), left[index])
            if times > 0:
                left[index] -= times
                round_parts.append(((index,), times))
                limit = _after(net, limit, (index,), times)
        parts.extend(round_parts)
        if not round_parts:
            break
        if sum([times for _, times in round_parts]) <= LONGEST_ROUND:
            run = tuple(spread(round_parts))
            most = min([left[part[0]] // times for part, times in round_parts])
            times = _times_possible(net, limit, run, most)
            if times > 0:
                left = {index: count - times * run.count(index) for index, count in left.items()}
                parts.append((run, times))
                limit = _after(net, limit, run, times)
    return parts, limit


def _times_possible(net, limit, run, most):
    """Return how often the run can be fired from the limit, at most so often."""
    least, change = need_and_effect(net, run)
    times = most
    for number, low, step in zip(limit, least, change):
        if number != -1 and number < low:
            return 0
        if number != -1 and step < 0:
            times = min(times, (number - low) // -step + 1)
    return times


def _after(net, limit, run, times):
    """Return the limit after firing the run so many times."""
    _, change = need_and_effect(net, run)
    return tuple([-1 if most == -1 else number for most, number in zip(limit, shifted(limit, change, times))])


def maximize(rows, most, aims):
    """Return whole numbers x, none negative, with rows * x at most what is told, and aims * x greatest.

    Return them as (numbers, value): the value is aims * x at best. If it took too many cuts to find whole
    numbers, what is returned is a value that is not exceeded, and other numbers, perhaps too great ones.
    Return None if there is no greatest value. The numbers in most are not negative.
    """
    best = _best_table(rows, most, aims)
    if best is None:
        return None
    table, basis, divisor = best
    table, basis, divisor = _with_cuts(table, basis, divisor)
    return [number // divisor for number in _solution(table, basis, len(aims))], table[-1][-1] // divisor


def least_numbers(rows, most, many):
    """Return so many whole numbers x, none negative, with rows * x at most what is told, and the least sum of such.

    Return None if there are none. If it took too many cuts to find whole numbers, what is returned is a sum that
    all have at least, and other numbers, perhaps too small ones.
    """
    table, basis = _first_table(rows, most, [-1] * many)
    best = _mended(table, basis, 1)
    if best is not None:
        best = _with_cuts(best[0], best[1], best[2])
    if best is None:
        return None
    table, basis, divisor = best
    return [number // divisor for number in _solution(table, basis, many)], -(table[-1][-1] // divisor)


def best_fractions(rows, most, aims):
    """Return numbers x, prices and a divisor: x / divisor is best for what maximize looks for among fractions.

    The prices, none negative, prove it: with prices / divisor, the sum of the multiples of the rows is at
    least aims, and that of the numbers in most is what x / divisor is worth. There has to be a greatest value.
    """
    table, basis, divisor = _best_table(rows, most, aims)
    return _solution(table, basis, len(aims)), table[-1][len(aims):-1], divisor


def _best_table(rows, most, aims):
    """Return the table of best fractions, its basis and its divisor, or None if there is no greatest value."""
    table, basis = _first_table(rows, most, aims)
    divisor = 1
    column = _entering(table)
    while column != -1:
        at = _leaving(table, basis, column)
        if at == -1:
            return None
        table, divisor = _pivoted(table, at, column, divisor)
        basis[at] = column
        column = _entering(table)
    return table, basis, divisor


def _first_table(rows, most, aims):
    """Return the table in which all numbers that are looked for are 0, and its basis."""
    table = []
    for at, row in enumerate(rows):
        table.append(list(row) + [1 if other == at else 0 for other in range(len(rows))] + [most[at]])
    table.append([-aim for aim in aims] + [0] * (len(rows) + 1))
    return table, list(range(len(aims), len(aims) + len(rows)))


def _solution(table, basis, many):
    """Return the numbers of so many first columns, not divided by the divisor."""
    numbers = [0] * many
    for at, column in enumerate(basis):
        if column < many:
            numbers[column] = table[at][-1]
    return numbers


def _entering(table):
    """Return the first column with which the value grows, or -1."""
    for column, number in enumerate(table[-1][:-1]):
        if number < 0:
            return column
    return -1


def _leaving(table, basis, column):
    """Return the row that bounds the growth of the column first, or -1."""
    best = -1
    for at in range(len(basis)):
        if table[at][column] > 0:
            if best == -1:
                best = at
            # Ties are broken by the least column, so that no basis comes twice.
            here, there = table[at][-1] * table[best][column], table[best][-1] * table[at][column]
            if (here, basis[at]) < (there, basis[best]):
                best = at
    return best


def _pivoted(table, row, column, divisor):
    """Return the table in which the column belongs to the row, and its divisor; all numbers stay whole."""
    pivot = table[row][column]
    sign = 1 if pivot > 0 else -1
    result = []
    for at, line in enumerate(table):
        if at == row:
            result.append([sign * number for number in line])
        else:
            factor = line[column]
            result.append([sign * (pivot * one - factor * other) // divisor for one, other in zip(line, table[row])])
    return result, abs(pivot)


def _with_cuts(table, basis, divisor):
    """Return the table, its basis and its divisor after cuts that no whole numbers exceed; None if there are none."""
    columns = list(basis)
    for _ in range(CUTS):
        fractions = [at for at, line in enumerate(table) if line[-1] % divisor != 0]
        if not fractions:
            break
        cut = [-(number % divisor) for number in table[fractions[-1]]]
        lines = [line[:-1] + [0] + line[-1:] for line in table]
        table = lines[:-1] + [cut[:-1] + [divisor] + cut[-1:]] + lines[-1:]
        columns.append(len(cut) - 1)
        mended = _mended(table, columns, divisor)
        if mended is None:
            return None
        table, columns, divisor = mended
    return table, columns, divisor


def _mended(table, basis, divisor):
    """Return the table, its basis and its divisor without negative numbers at the ends of rows, or None."""
    columns = list(basis)
    lacking = _lacking(table, columns)
    while lacking != -1:
        column = _least_loss(table, lacking)
        if column == -1:
            return None
        table, divisor = _pivoted(table, lacking, column, divisor)
        columns[lacking] = column
        lacking = _lacking(table, columns)
    return table, columns, divisor


def _lacking(table, basis):
    """Return a row with a negative number at its end, or -1."""
    rows = [(column, at) for at, column in enumerate(basis) if table[at][-1] < 0]
    # The least column is taken, so that no basis comes twice.
    return min(rows)[1] if rows else -1


def _least_loss(table, row):
    """Return the column with which the row is mended with the least loss of value."""
    best = -1
    for column, number in enumerate(table[row][:-1]):
        if number < 0:
            if best == -1 or table[-1][column] * table[row][best] > table[-1][best] * number:
                best = column
    return best
