"""Flows from one marking of a plain net to another, and the bars that exclude them (point 26)."""

from covernets.invariants import divided
from covernets.plans import best_fractions
from covernets.runs import effects


def balance(net, first, second):
    """Return ("flow", numbers, divisor) or ("bar", weights) for two markings."""
    changes = effects(net)
    gaps = [number - other for number, other in zip(second, first)]
    signs = [-1 if gap < 0 else 1 for gap in gaps]
    rows = [[sign * change[place] for change in changes] for place, sign in enumerate(signs)]
    aims = [sum([row[index] for row in rows]) for index in range(len(changes))]
    # The gaps are closed as far as they can be without going beyond them.
    numbers, prices, divisor = best_fractions(rows, [abs(gap) for gap in gaps], aims)
    weights = [sign * (divisor - price) for sign, price in zip(signs, prices)]
    if _total(weights, gaps) > 0:
        return "bar", divided(weights)
    flow = divided(numbers + [divisor])
    return "flow", flow[:-1], flow[-1]


def _total(weights, numbers):
    """Return the sum of the products of weights and numbers."""
    return sum([weight * number for weight, number in zip(weights, numbers)])


def judge_balance(net, first, second, paper):
    """Return True if the paper is a flow from the first marking to the second, or a bar, otherwise False."""
    changes = effects(net)
    gaps = [number - other for number, other in zip(second, first)]
    if paper[0] == "bar":
        weights = paper[1]
        return max([_total(weights, change) for change in changes], default=0) <= 0 < _total(weights, gaps)
    _, numbers, divisor = paper
    if divisor < 1 or min(numbers, default=0) < 0:
        return False
    sums = [_total(numbers, [change[place] for change in changes]) for place in range(net.places)]
    return sums == [divisor * gap for gap in gaps]
