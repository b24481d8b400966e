import unittest

from covernets.errors import NotPlain
from covernets.forward import bounds, fire_limit, judge_limits, limit_set
from covernets.limits import frame_of, in_frame, within
from covernets.nets import Net
from covernets.runs import fire_parts
from covernets.growth import growth
from helpers import HUGE, box, plain_net, reachable, small_net

EXAMPLE = Net(3, [((1, 0, 0), (1, 1, 0), (0, 1, 2)), ((1, 0, 0), (0, 0, 1), (0, 1, 2))])
MOVING = Net(2, [((1, 0), (0, 0), (1, 1))])


class FireLimitTest(unittest.TestCase):
    def test_numbers_and_any_number(self):
        net = plain_net(3, [((1, 2, 0), (0, 5, 1))])
        self.assertEqual(fire_limit(net, 0, (1, 2, 0)), (0, 5, 1))
        self.assertEqual(fire_limit(net, 0, (-1, 2, -1)), (-1, 5, -1))
        self.assertEqual(fire_limit(net, 0, (-1, -1, -1)), (-1, -1, -1))
        self.assertEqual(fire_limit(net, 0, (HUGE, HUGE, 0)), (HUGE - 1, HUGE + 3, 1))

    def test_not_enabled(self):
        net = plain_net(3, [((1, 2, 0), (0, 5, 1))])
        self.assertIsNone(fire_limit(net, 0, (0, -1, -1)))
        self.assertIsNone(fire_limit(net, 0, (-1, 1, HUGE)))

    def test_not_plain(self):
        self.assertRaises(NotPlain, fire_limit, MOVING, 0, (0, 0))


class LimitSetTest(unittest.TestCase):
    def test_example(self):
        self.assertEqual(limit_set(EXAMPLE, (1, 0, 0)), [(0, -1, 1), (1, -1, 0)])

    def test_edges(self):
        self.assertEqual(limit_set(Net(2, []), (3, -1)), [(3, -1)])
        self.assertEqual(limit_set(plain_net(1, [((1,), (0,))]), (4,)), [(4,)])
        self.assertEqual(limit_set(plain_net(1, [((1,), (2,))]), (0,)), [(0,)])
        self.assertEqual(limit_set(plain_net(1, [((1,), (2,))]), (1,)), [(-1,)])
        self.assertEqual(limit_set(plain_net(2, [((1, 0), (0, 1))]), (-1, 0)), [(-1, -1)])

    def test_great_numbers(self):
        taking = plain_net(2, [((1, 0), (0, 0)), ((0, 2), (0, 1))])
        self.assertEqual(limit_set(taking, (HUGE, HUGE)), [(HUGE, HUGE)])
        growing = plain_net(2, [((1, 0), (0, 1)), ((0, 1), (1, 1))])
        self.assertEqual(limit_set(growing, (HUGE, 0)), [(-1, -1)])
        # What grows again and again while it is replaced has its turn, too.
        replaced = plain_net(2, [((3, 1), (1, 3)), ((2, 1), (3, 1)), ((2, 1), (0, 2))])
        self.assertEqual(limit_set(replaced, (HUGE, 2)), [(-1, -1)])

    def test_small_nets_with_all_their_markings(self):
        tried = 0
        for seed in range(300):
            net = small_net(seed, 3, 3, 2, 0)
            marking = (seed % 3, seed % 2, 2)
            markings = reachable(net, marking, 300)
            if markings is not None:
                tried += 1
                self.assertEqual(limit_set(net, marking), frame_of(sorted(markings)))
        self.assertGreater(tried, 100)

    def test_what_the_points_say_of_many_nets(self):
        for seed in range(300):
            net = small_net(seed, 3, 4, 2, 0)
            limit = (seed % 3 - 1, seed % 2, seed % 4 - 1)
            limits = limit_set(net, limit)
            self.assertEqual(limits, frame_of(limits))
            self.assertIs(judge_limits(net, limit, limits), True)
            for other in limits:
                for number in (0, 6):
                    start, parts = growth(net, limit, other, number)
                    self.assertTrue(within(start, limit))
                    reached = fire_parts(net, start, parts)
                    wanted = [number if most == -1 else most for most in other]
                    self.assertTrue(all(have >= want for have, want in zip(reached, wanted)))

    def test_results_are_new_and_arguments_stay(self):
        first, second = limit_set(EXAMPLE, (1, 0, 0)), limit_set(EXAMPLE, (1, 0, 0))
        self.assertEqual(first, second)
        self.assertIsNot(first, second)
        limits = [(0, -1, 1), (1, -1, 0)]
        judge_limits(EXAMPLE, (1, 0, 0), limits)
        self.assertEqual(limits, [(0, -1, 1), (1, -1, 0)])

    def test_not_plain(self):
        self.assertRaises(NotPlain, limit_set, MOVING, (0, 0))


class JudgeLimitsTest(unittest.TestCase):
    def test_taken(self):
        self.assertIs(judge_limits(EXAMPLE, (1, 0, 0), [(1, -1, 0), (0, -1, 1)]), True)
        self.assertIs(judge_limits(EXAMPLE, (1, 0, 0), [(-1, -1, -1)]), True)
        self.assertIs(judge_limits(EXAMPLE, (-1, 3, 0), [(-1, -1, -1), (0, 0, 0)]), True)
        self.assertIs(judge_limits(EXAMPLE, (0, 7, HUGE), [(0, 7, HUGE)]), True)

    def test_not_taken(self):
        self.assertIs(judge_limits(EXAMPLE, (1, 0, 0), []), False)
        self.assertIs(judge_limits(EXAMPLE, (1, 0, 0), [(1, -1, 0)]), False)
        self.assertIs(judge_limits(EXAMPLE, (1, 0, 0), [(1, 5, 0), (0, -1, 1)]), False)
        self.assertIs(judge_limits(EXAMPLE, (1, 0, 0), [(0, -1, 1)]), False)
        self.assertIs(judge_limits(EXAMPLE, (-1, 0, 0), [(1, -1, 0), (0, -1, 1)]), False)

    def test_limits_that_are_not_reached_count_too(self):
        self.assertIs(judge_limits(EXAMPLE, (0, 0, 0), [(0, 0, 0), (1, 0, 0)]), False)

    def test_all_that_is_reachable_is_admitted(self):
        for seed in range(120):
            net = small_net(seed, 2, 3, 2, 0)
            for limits in ([(2, 3), (4, 1)], [(1, -1), (3, 0)], [(-1, 2), (0, -1)]):
                if judge_limits(net, (1, 1), limits):
                    markings = reachable(net, (1, 1), 100)
                    self.assertTrue(markings is None or all(in_frame(limits, marking) for marking in markings))

    def test_not_plain(self):
        self.assertRaises(NotPlain, judge_limits, MOVING, (0, 0), [])


class BoundsTest(unittest.TestCase):
    def test_example(self):
        self.assertEqual(bounds(EXAMPLE, (1, 0, 0)), (1, -1, 1))

    def test_edges(self):
        self.assertEqual(bounds(Net(2, []), (3, -1)), (3, -1))
        self.assertEqual(bounds(plain_net(1, [((1,), (0,))]), (HUGE,)), (HUGE,))
        self.assertEqual(bounds(plain_net(2, [((1, 0), (0, 2))]), (3, 1)), (3, 7))

    def test_no_bound_in_one_limit_only(self):
        net = plain_net(3, [((1, 0, 0), (0, 1, 0)), ((0, 1, 0), (0, 1, 1)), ((1, 0, 0), (0, 0, 3))])
        self.assertEqual(limit_set(net, (1, 0, 0)), [(0, 1, -1), (1, 0, 0)])
        self.assertEqual(bounds(net, (1, 0, 0)), (1, 1, -1))

    def test_small_nets_with_all_their_markings(self):
        for seed in range(200):
            net = small_net(seed, 3, 3, 2, 0)
            markings = reachable(net, (1, seed % 3, 2), 300)
            if markings is not None:
                expected = tuple(max(marking[place] for marking in markings) for place in range(3))
                self.assertEqual(bounds(net, (1, seed % 3, 2)), expected)

    def test_not_plain(self):
        self.assertRaises(NotPlain, bounds, MOVING, (0, 0))


if __name__ == "__main__":
    unittest.main()
