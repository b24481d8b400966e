import random
import unittest
from fractions import Fraction
from itertools import combinations
from math import gcd

from covernets.errors import NotPlain
from covernets.invariants import invariant_basis, minimal_semiflows
from covernets.nets import Net
from covernets.runs import effect
from helpers import box, plain_net, small_net

# Two tokens of place 0 become one of place 1, which becomes two of place 2.
NET = plain_net(3, [((2, 0, 0), (0, 1, 0)), ((0, 1, 0), (0, 0, 2))])
MOVING = Net(2, [((0, 0), (1, 1), (0, 1)), ((0, 0), (0, 0), (0, 0))])


def changes_of(net):
    return [effect(net, [index]) for index in range(len(net.transitions))]


def dot(row, other):
    return sum(number * step for number, step in zip(row, other))


def is_invariant(net, row):
    return all(dot(row, change) == 0 for change in changes_of(net))


def support_of(row):
    return {place for place, number in enumerate(row) if number != 0}


def null_space(rows, size):
    """A basis of the solutions of rows * y = 0, with fractions."""
    rows = [[Fraction(number) for number in row] for row in rows]
    leads = []
    for column in range(size):
        found = [row for row in rows[len(leads):] if row[column] != 0]
        if found:
            at = len(leads)
            rows.remove(found[0])
            rows.insert(at, [number / found[0][column] for number in found[0]])
            for other in range(len(rows)):
                if other != at:
                    factor = rows[other][column]
                    rows[other] = [one - factor * two for one, two in zip(rows[other], rows[at])]
            leads.append(column)
    solutions = []
    for free in range(size):
        if free not in leads:
            solution = [Fraction(int(column == free)) for column in range(size)]
            for at, lead in enumerate(leads):
                solution[lead] = -rows[at][free]
            solutions.append(solution)
    return solutions


def is_primitive(row):
    return gcd(*row) == 1


def minimal_supports(net):
    """The supports that carry one positive invariant only, but for multiples."""
    found = []
    for size in range(1, net.places + 1):
        for places in combinations(range(net.places), size):
            rows = [[change[place] for place in places] for change in changes_of(net)]
            solutions = null_space(rows, size)
            if len(solutions) == 1 and (all(n > 0 for n in solutions[0]) or all(n < 0 for n in solutions[0])):
                found.append(set(places))
    return found


class InvariantBasisTest(unittest.TestCase):
    def test_example(self):
        self.assertEqual(invariant_basis(NET), [(1, 2, 1)])
        self.assertEqual(minimal_semiflows(NET), [(1, 2, 1)])

    def test_no_transitions(self):
        self.assertEqual(invariant_basis(Net(3, [])), [(1, 0, 0), (0, 1, 0), (0, 0, 1)])

    def test_transitions_without_effect(self):
        net = plain_net(2, [((0, 0), (0, 0)), ((3, 2), (3, 2))])
        self.assertEqual(invariant_basis(net), [(1, 0), (0, 1)])

    def test_no_invariant_but_zero(self):
        self.assertEqual(invariant_basis(plain_net(2, [((1, 0), (0, 0)), ((1, 1), (0, 0))])), [])

    def test_common_divisors_and_signs(self):
        self.assertEqual(invariant_basis(plain_net(2, [((4, 0), (0, 6))])), [(3, 2)])
        self.assertEqual(invariant_basis(plain_net(2, [((4, 6), (0, 0))])), [(3, -2)])
        self.assertEqual(invariant_basis(plain_net(2, [((0, 0), (9, 3))])), [(1, -3)])

    def test_first_numbers_stand_alone(self):
        net = plain_net(4, [((1, 1, 1, 1), (0, 0, 0, 0))])
        self.assertEqual(invariant_basis(net), [(1, 0, 0, -1), (0, 1, 0, -1), (0, 0, 1, -1)])
        net = plain_net(3, [((0, 0, 1), (0, 0, 0))])
        self.assertEqual(invariant_basis(net), [(1, 0, 0), (0, 1, 0)])
        net = plain_net(3, [((2, 3, 0), (0, 0, 0))])
        self.assertEqual(invariant_basis(net), [(3, -2, 0), (0, 0, 1)])

    def test_many_nets(self):
        for seed in range(300):
            net = small_net(seed, 2 + seed % 5, 1 + seed % 4, 9, 0)
            rows = invariant_basis(net)
            self.assertIsInstance(rows, list)
            self.assertEqual(len(rows), len(null_space(changes_of(net), net.places)))
            leads = []
            for row in rows:
                self.assertIsInstance(row, tuple)
                self.assertTrue(is_invariant(net, row), seed)
                self.assertTrue(is_primitive(row))
                leads.append(min(support_of(row)))
                self.assertGreater(row[leads[-1]], 0)
            self.assertEqual(leads, sorted(set(leads)))
            for row in rows:
                self.assertEqual([place for place in leads if row[place] != 0], [min(support_of(row))])


class MinimalSemiflowsTest(unittest.TestCase):
    def test_ascending_order(self):
        self.assertEqual(minimal_semiflows(Net(3, [])), [(0, 0, 1), (0, 1, 0), (1, 0, 0)])
        net = plain_net(4, [((1, 1, 0, 0), (0, 0, 1, 1))])
        self.assertEqual(minimal_semiflows(net), [(0, 1, 0, 1), (0, 1, 1, 0), (1, 0, 0, 1), (1, 0, 1, 0)])

    def test_none(self):
        self.assertEqual(minimal_semiflows(plain_net(2, [((1, 1), (0, 0))])), [])
        self.assertEqual(minimal_semiflows(plain_net(1, [((0,), (1,))])), [])

    def test_common_divisors(self):
        self.assertEqual(minimal_semiflows(plain_net(2, [((6, 0), (0, 4))])), [(2, 3)])
        self.assertEqual(minimal_semiflows(plain_net(2, [((0, 0), (0, 0))])), [(0, 1), (1, 0)])

    def test_many_nets(self):
        many = 0
        for seed in range(300):
            net = small_net(seed, 2 + seed % 5, 1 + seed % 3, 3, 0)
            rows = minimal_semiflows(net)
            self.assertEqual(rows, sorted(rows))
            for row in rows:
                self.assertTrue(is_invariant(net, row))
                self.assertTrue(is_primitive(row))
                self.assertGreaterEqual(min(row), 0)
            found = [support_of(row) for row in rows]
            expected = minimal_supports(net)
            self.assertEqual(len(found), len(expected))
            for places in expected:
                self.assertIn(places, found)
            many = max(many, len(rows))
        self.assertGreater(many, 5)

    def test_each_semiflow_has_a_minimal_one_within(self):
        for seed in range(60):
            net = small_net(seed, 4, 2, 2, 0)
            supports = [support_of(row) for row in minimal_semiflows(net)]
            for row in box(4, 3):
                if any(row) and is_invariant(net, row):
                    self.assertTrue(any(places <= support_of(row) for places in supports))

    def test_many_places(self):
        chooser = random.Random(7)
        pairs = []
        for _ in range(4):
            row = [chooser.choice([1, -1]) * chooser.randint(0, 9) for _ in range(12)]
            pairs.append((tuple(max(0, -n) for n in row), tuple(max(0, n) for n in row)))
        net = plain_net(12, pairs)
        rows = minimal_semiflows(net)
        self.assertGreater(len(rows), 10)
        self.assertTrue(all(is_invariant(net, row) and min(row) == 0 for row in rows))
        self.assertEqual(len(invariant_basis(net)), 8)


class CommonTest(unittest.TestCase):
    def test_not_plain(self):
        for function in (invariant_basis, minimal_semiflows):
            with self.assertRaises(NotPlain):
                function(MOVING)

    def test_lists_are_new(self):
        for function in (invariant_basis, minimal_semiflows):
            first = function(NET)
            first.append("more")
            self.assertEqual(function(NET), [(1, 2, 1)])
        self.assertEqual(NET.transitions[0], ((2, 0, 0), (0, 1, 0), (0, 1, 2)))


if __name__ == "__main__":
    unittest.main()
