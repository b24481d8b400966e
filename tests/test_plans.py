import random
import unittest

from covernets.closed import covers
from covernets.errors import NotPlain
from covernets.forward import bounds, limit_set
from covernets.growth import growth, longest_reach
from covernets.limits import limit_in
from covernets.plans import best_plan, least_firings, maximize, plan_to
from covernets.runs import fire_parts, run_from
from covernets.backward import way
from covernets.nets import Net
from helpers import HUGE, box, plain_net, small_net

# One token of place 0 becomes two of place 1, and one of each becomes one of place 2.
NET = plain_net(3, [((1, 0, 0), (0, 2, 0)), ((1, 1, 0), (0, 0, 1))])


class MaximizeTest(unittest.TestCase):
    def test_ordinary(self):
        # At most 4 of the first, 2 * the second at most 12, 3 and 2 times them at most 18.
        self.assertEqual(maximize([[1, 0], [0, 2], [3, 2]], [4, 12, 18], [3, 5]), ([2, 6], 36))

    def test_whole_numbers(self):
        self.assertEqual(maximize([[2, 1], [1, 3]], [1, 1], [1, 1])[1], 0)
        self.assertEqual(maximize([[3]], [HUGE + 1], [2]), ([HUGE // 3], HUGE // 3 * 2))
        self.assertEqual(maximize([[2, 2]], [2 * HUGE + 1], [1, 1])[1], HUGE)

    def test_no_greatest_value(self):
        self.assertIsNone(maximize([[1, -1]], [3], [1, 0]))

    def test_nothing_to_gain(self):
        self.assertEqual(maximize([[1, 1]], [3], [-1, 0])[1], 0)
        self.assertEqual(maximize([], [], []), ([], 0))

    def test_many_ties(self):
        self.assertEqual(maximize([[1, 1], [1, -1], [-1, 1], [2, 1]], [0, 0, 0, 0], [1, 1]), ([0, 0], 0))

    def test_all_whole_numbers_of_small_cases(self):
        chooser = random.Random(5)
        for _ in range(300):
            rows = [[chooser.randint(-2, 4) for _ in range(3)] for _ in range(2)] + [[1, 1, 1]]
            most = [chooser.randint(0, 9), chooser.randint(0, 9), 6]
            aims = [chooser.randint(-3, 5) for _ in range(3)]
            best = max(
                sum(aim * number for aim, number in zip(aims, numbers)) for numbers in box(3, 6)
                if all(sum(map(int.__mul__, row, numbers)) <= bound for row, bound in zip(rows, most))
            )
            numbers, value = maximize(rows, most, aims)
            self.assertEqual(value, best)
            self.assertEqual(sum(aim * number for aim, number in zip(aims, numbers)), best)


class PlansTest(unittest.TestCase):
    def test_what_plans_say_is_true(self):
        known = [0, 0, 0]
        for seed in range(200):
            net = small_net(seed, 3, 3, 2, 0)
            limit = (seed % 5, seed % 3 - 1, seed % 2)
            limits, most = limit_set(net, limit), bounds(net, limit)
            for place in range(3):
                upper, reached = best_plan(net, limit, place)
                if most[place] != -1:
                    self.assertLessEqual(reached, most[place])
                    self.assertTrue(upper is None or most[place] <= upper)
                elif limit[place] != -1:
                    self.assertIsNone(upper)
            for goal in [(1, 0, 2), (3, 1, 0), (0, 4, 1), (9, 0, 0)]:
                possible, parts = plan_to(net, limit, goal)
                known[2 if parts is not None else 1 if possible else 0] += 1
                self.assertTrue(possible or parts is None)
                if parts is not None:
                    self.assertTrue(limit_in(goal, limits))
                if not possible:
                    self.assertFalse(limit_in(goal, limits))
        self.assertGreater(min(known), 20)

    def test_bounds_with_great_numbers(self):
        self.assertEqual(bounds(NET, (3 * HUGE, 0, 0)), (3 * HUGE, 6 * HUGE, 2 * HUGE))
        self.assertEqual(bounds(NET, (3 * HUGE, -1, 0)), (3 * HUGE, -1, 3 * HUGE))
        self.assertEqual(bounds(plain_net(2, [((2, 0), (0, 1))]), (HUGE + 1, 0)), (HUGE + 1, HUGE // 2))
        self.assertEqual(bounds(plain_net(2, [((3, 0), (0, 2))]), (HUGE + 1, 0)), (HUGE + 1, HUGE // 3 * 2))
        growing = plain_net(3, [((1, 0, 0), (0, 1, 0)), ((0, 1, 0), (0, 1, 1))])
        self.assertEqual(bounds(growing, (HUGE, 0, 0)), (HUGE, HUGE, -1))
        for number in (999, 1000, 1001):
            self.assertEqual(bounds(plain_net(2, [((1, 0), (0, 1))]), (number, 0)), (number, number))

    def test_bounds_that_no_plan_reaches(self):
        # The last token of place 0 cannot be used.
        self.assertEqual(bounds(plain_net(2, [((2, 0), (1, 2))]), (1500, 0)), (1500, 2998))

    def test_catalysts(self):
        # The token of place 2 goes to and fro; each time, one of place 0 becomes one of place 1.
        net = plain_net(4, [((1, 0, 1, 0), (0, 0, 0, 1)), ((0, 0, 0, 1), (0, 1, 1, 0))])
        self.assertEqual(bounds(net, (HUGE, 0, 1, 0)), (HUGE, HUGE, 1, 1))
        start, parts = longest_reach(net, (HUGE, 0, 1, 0), 1, HUGE)
        self.assertEqual(fire_parts(net, start, parts)[1], HUGE)
        # Without that token, nothing moves.
        self.assertEqual(bounds(net, (HUGE, 0, 0, 0)), (HUGE, 0, 0, 0))

    def test_growth_with_great_numbers(self):
        limit = (3 * HUGE, 0, -1)
        for goal in [(HUGE, HUGE, 5), (0, 6 * HUGE, 0), (2, 2, -1), (0, 0, -1)]:
            start, parts = growth(NET, limit, goal, HUGE)
            reached = fire_parts(NET, start, parts)
            wanted = [HUGE if most == -1 else most for most in goal]
            self.assertTrue(all(have >= want for have, want in zip(reached, wanted)))
            self.assertTrue(all(most in (-1, number) or number < most for number, most in zip(start, limit)))
        self.assertIsNone(growth(NET, limit, (1, 6 * HUGE, 0), HUGE))
        self.assertIsNone(growth(NET, limit, (0, -1, 0), 0))

    def test_growth_without_end_beside_great_numbers(self):
        net = plain_net(3, [((1, 0, 0), (0, 1, 0)), ((0, 1, 0), (0, 1, 1))])
        start, parts = growth(net, (HUGE, 0, 0), (5, 2, -1), 2 * HUGE)
        reached = fire_parts(net, start, parts)
        self.assertTrue(reached[0] >= 5 and reached[1] >= 2 and reached[2] >= 2 * HUGE)

    def test_longest_reach_with_great_numbers(self):
        self.assertIsNone(longest_reach(NET, (3 * HUGE, 0, 0), 2, 2 * HUGE + 1))
        start, parts = longest_reach(NET, (3 * HUGE, 0, 0), 2, 2 * HUGE)
        self.assertEqual(fire_parts(NET, start, parts)[2], 2 * HUGE)

    def test_ways_with_great_numbers(self):
        run = way(NET, [(0, 0, 2 * HUGE + 1), (0, 0, 5000)], (3 * HUGE, 0, 0))
        self.assertGreaterEqual(run_from(NET, (3 * HUGE, 0, 0), run)[2], 5000)

    def test_no_way_with_great_numbers(self):
        self.assertIsNone(way(NET, [(0, 0, 2 * HUGE + 1), (1, 6 * HUGE, 0)], (3 * HUGE, 0, 0)))

    def test_not_plain_comes_first(self):
        moving = Net(2, [((1, 0), (0, 0), (1, 1))])
        self.assertRaises(NotPlain, bounds, moving, (HUGE, 0))
        self.assertRaises(NotPlain, growth, moving, (HUGE, 0), (0, 0), 1)


class LeastFiringsTest(unittest.TestCase):
    def test_ordinary(self):
        self.assertEqual(least_firings(NET, (3, 0, 0), (0, 0, 1)), (2, [((0,), 1), ((1,), 1)]))
        self.assertEqual(least_firings(NET, (3, 0, 0), (3, 0, 0)), (0, []))
        self.assertEqual(least_firings(NET, (1, 0, 0), (0, 0, 1)), (None, None))
        self.assertEqual(least_firings(NET, (HUGE, 0, 0), (0, 2 * HUGE, 0))[0], HUGE)

    def test_fractions_are_not_firings(self):
        # Half a firing would do, if there were such ones; and from an odd number none does.
        net = plain_net(2, [((0, 0), (2, 0)), ((4, 0), (2, 1))])
        self.assertEqual(least_firings(net, (0, 0), (1, 0))[0], 1)
        self.assertEqual(least_firings(net, (0, 0), (3, 1))[0], 4)
        self.assertEqual(least_firings(plain_net(2, [((2, 1), (0, 2))]), (1, 1), (0, 2)), (None, None))

    def test_what_cannot_be_ordered(self):
        # Each of the two needs what the other one gives.
        net = plain_net(2, [((1, 0), (0, 2)), ((0, 1), (2, 0))])
        self.assertEqual(least_firings(net, (0, 0), (1, 1)), (2, None))

    def test_without_transitions(self):
        self.assertEqual(least_firings(Net(1, []), (2,), (2,)), (0, []))
        self.assertEqual(least_firings(Net(1, []), (2,), (3,)), (None, None))

    def test_many_nets(self):
        told = 0
        for seed in range(300):
            net = small_net(seed, 3, 1 + seed % 4, 3, 0)
            marking, goal = (seed % 3, seed % 2, 3), ((seed + 1) % 5, seed % 4, 1)
            least, parts = least_firings(net, marking, goal)
            run = way(net, [goal], marking)
            if run is not None:
                self.assertLessEqual(least, len(run))
            if parts is not None:
                told += least > 0
                self.assertEqual(sum(len(run) * times for run, times in parts), least)
                self.assertTrue(covers(fire_parts(net, marking, parts), goal))
        self.assertGreater(told, 20)


if __name__ == "__main__":
    unittest.main()
