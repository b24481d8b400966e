"""Linear flows, which cover a goal in fractions, and linear barriers, which exclude it (point 51)."""

from covernets.invariants import divided
from covernets.plans import best_fractions
from covernets.runs import effects


def linear_paper(net, start, goal):
    """Return ("flow", numbers, lift, divisor) or ("weights", weights) for a start and a goal."""
    columns = _columns(net, start)
    base, _ = start
    # The last variable is a part of the goal, at most all of it; the greatest part that can be covered is found.
    rows = [[-column[place] for column in columns] + [goal[place]] for place in range(net.places)]
    rows.append([0] * len(columns) + [1])
    aims = [0] * len(columns) + [1]
    numbers, prices, divisor = best_fractions(rows, list(base) + [1], aims)
    if numbers[-1] < divisor:
        return "weights", divided(prices[:-1])
    flow = divided(numbers[:-1] + [divisor])
    many = len(net.transitions)
    return "flow", flow[:many], sum(flow[many:-1]), flow[-1]


def _columns(net, start):
    """Return what the transitions change, and behind it one more token at the place free if there is one."""
    _, free = start
    columns = effects(net)
    if free != -1:
        columns.append(tuple([1 if place == free else 0 for place in range(net.places)]))
    return columns


def judge_linear(net, start, goal, paper):
    """Return True if the paper is a linear flow or a linear barrier, otherwise False."""
    columns = _columns(net, start)
    base, free = start
    gaps = [number - has for number, has in zip(goal, base)]
    if paper[0] == "weights":
        weights = paper[1]
        if min(weights) < 0:
            return False
        return max([_total(weights, column) for column in columns], default=0) <= 0 < _total(weights, gaps)
    _, numbers, lift, divisor = paper
    if divisor < 1 or lift < 0 or min(numbers, default=0) < 0 or (free == -1 and lift != 0):
        return False
    times = list(numbers) + [lift]
    for place, gap in enumerate(gaps):
        # Without a place free the lift has no column.
        if _total(times, [column[place] for column in columns]) < divisor * gap:
            return False
    return True


def _total(weights, numbers):
    """Return the sum of the products of weights and numbers."""
    return sum([weight * number for weight, number in zip(weights, numbers)])
