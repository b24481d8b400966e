import unittest

from covernets.errors import NotPlain
from covernets.forward import bounds, limit_set
from covernets.growth import growth, longest_reach
from covernets.limits import admits, limit_in
from covernets.closed import covers
from covernets.nets import Net
from covernets.runs import fire_parts
from helpers import HUGE, plain_net, small_net

EXAMPLE = Net(3, [((1, 0, 0), (1, 1, 0), (0, 1, 2)), ((1, 0, 0), (0, 0, 1), (0, 1, 2))])
# Place 1 grows while place 0 has a token; then place 2 grows, but each time it takes two from place 1.
CHAIN = plain_net(4, [((1, 0, 0, 0), (1, 1, 0, 0)), ((1, 0, 0, 0), (0, 0, 0, 1)), ((0, 2, 0, 1), (0, 0, 1, 1))])
MOVING = Net(2, [((1, 0), (0, 0), (1, 1))])


class ReachCase(unittest.TestCase):
    def assert_leads(self, net, limit, result, wanted):
        start, parts = result
        self.assertIsInstance(start, tuple)
        self.assertIsInstance(parts, list)
        for run, times in parts:
            self.assertIsInstance(run, tuple)
            self.assertGreaterEqual(times, 0)
        self.assertTrue(all(number >= 0 for number in start))
        self.assertTrue(admits(limit, start))
        self.assertTrue(covers(fire_parts(net, start, parts), wanted))


class GrowthTest(ReachCase):
    def assert_growth(self, net, limit, goal, number):
        result = growth(net, limit, goal, number)
        self.assertIsInstance(result, tuple)
        self.assert_leads(net, limit, result, tuple(number if most == -1 else most for most in goal))

    def test_ordinary_goals(self):
        for number in (0, 1, 17, HUGE):
            self.assert_growth(EXAMPLE, (1, 0, 0), (0, -1, 1), number)
            self.assert_growth(EXAMPLE, (1, 0, 0), (0, -1, 0), number)
            self.assert_growth(CHAIN, (1, 0, 0, 0), (0, -1, -1, 1), number)
            self.assert_growth(CHAIN, (1, 0, 0, 0), (0, 3, -1, 0), number)

    def test_goals_without_any_number(self):
        self.assert_growth(EXAMPLE, (1, 0, 0), (0, 12, 1), 5)
        self.assert_growth(EXAMPLE, (1, 0, 0), (0, HUGE, 1), 0)
        self.assert_growth(EXAMPLE, (1, 0, 0), (1, 0, 0), HUGE)

    def test_the_limit_has_any_number(self):
        net = plain_net(2, [((3, 0), (0, 1))])
        for number in (0, 7, HUGE):
            self.assert_growth(net, (-1, 0), (-1, -1), number)
            self.assert_growth(net, (-1, 0), (2, -1), number)
            self.assert_growth(net, (-1, -1), (-1, 4), number)

    def test_what_is_needed_but_not_used_up(self):
        # Each firing needs five tokens, but uses up one only: ten firings need fourteen.
        net = plain_net(2, [((5, 0), (4, 1))])
        self.assert_growth(net, (-1, 0), (0, -1), 10)
        self.assert_growth(net, (-1, 0), (-1, -1), HUGE)
        self.assertIsNone(growth(net, (13, 0), (0, 10), 0))
        self.assert_growth(net, (14, 0), (4, 10), 0)

    def test_goals_within_no_limit(self):
        self.assertIsNone(growth(EXAMPLE, (1, 0, 0), (1, 0, 1), 5))
        self.assertIsNone(growth(EXAMPLE, (1, 0, 0), (-1, 0, 0), 0))
        self.assertIsNone(growth(EXAMPLE, (1, 0, 0), (0, -1, 2), 0))
        self.assertIsNone(growth(EXAMPLE, (0, 0, 0), (0, 1, 0), 0))

    def test_great_numbers_in_the_limit(self):
        net = plain_net(2, [((1, 0), (0, 1)), ((0, 1), (1, 1))])
        self.assert_growth(net, (HUGE, 0), (-1, -1), 3 * HUGE)
        self.assert_growth(plain_net(1, [((1,), (0,))]), (HUGE,), (HUGE,), 0)

    def test_many_nets(self):
        grown = 0
        for seed in range(250):
            net = small_net(seed, 3, 4, 2, 0)
            limit = (seed % 3 - 1, seed % 2, 1)
            limits = limit_set(net, limit)
            for goal in [(-1, 0, 0), (0, -1, 1), (-1, -1, 0), (1, 1, -1), (2, 0, 3)]:
                if limit_in(goal, limits):
                    grown += 1
                    self.assert_growth(net, limit, goal, seed % 9)
                    self.assert_growth(net, limit, goal, HUGE + seed)
                else:
                    self.assertIsNone(growth(net, limit, goal, 1))
        self.assertGreater(grown, 200)

    def test_equal_arguments_give_equal_results(self):
        first, second = (growth(CHAIN, (1, 0, 0, 0), (0, 3, -1, 0), 9) for _ in range(2))
        self.assertEqual(first, second)
        self.assertIsNot(first[1], second[1])

    def test_not_plain(self):
        self.assertRaises(NotPlain, growth, MOVING, (0, 0), (0, 0), 1)
        self.assertRaises(NotPlain, growth, MOVING, (0, 0), (5, 5), 1)


class LongestReachTest(ReachCase):
    def assert_reach(self, net, limit, place, number):
        wanted = tuple(number * (other == place) for other in range(net.places))
        self.assert_leads(net, limit, longest_reach(net, limit, place, number), wanted)

    def test_ordinary_places(self):
        for number in (0, 1, 50, HUGE):
            self.assert_reach(EXAMPLE, (1, 0, 0), 1, number)
            self.assert_reach(CHAIN, (1, 0, 0, 0), 2, number)
        self.assert_reach(EXAMPLE, (1, 0, 0), 2, 1)

    def test_not_reachable(self):
        self.assertIsNone(longest_reach(EXAMPLE, (1, 0, 0), 2, 2))
        self.assertIsNone(longest_reach(EXAMPLE, (0, HUGE, 0), 1, HUGE + 1))
        self.assert_reach(EXAMPLE, (0, HUGE, 0), 1, HUGE)

    def test_bounds_are_reached_and_not_more(self):
        for seed in range(150):
            net = small_net(seed, 3, 3, 2, 0)
            limit = (seed % 3 - 1, 1, seed % 2)
            for place, most in enumerate(bounds(net, limit)):
                if most == -1:
                    self.assert_reach(net, limit, place, HUGE)
                else:
                    self.assert_reach(net, limit, place, most)
                    self.assertIsNone(longest_reach(net, limit, place, most + 1))

    def test_not_plain(self):
        self.assertRaises(NotPlain, longest_reach, MOVING, (0, 0), 0, 1)


if __name__ == "__main__":
    unittest.main()
