import unittest
from itertools import product

from covernets.closed import covers
from covernets.errors import NotEnabled, NotPlain
from covernets.nets import Net
from covernets.runs import effect, fire_parts, need, run_from, spread
from helpers import HUGE, box, plain_net, small_net

# Transition 0 turns two tokens of place 0 into one of place 1; transition 1 gives a token to place 0.
NET = plain_net(2, [((2, 0), (0, 1)), ((0, 0), (1, 0))])
MOVING = Net(2, [((1, 0), (0, 0), (1, 1))])


class RunTest(unittest.TestCase):
    def test_empty_run(self):
        self.assertEqual(run_from(NET, (3, 4), []), (3, 4))
        self.assertEqual(run_from(NET, (3, 4), ()), (3, 4))

    def test_lists_and_tuples(self):
        self.assertEqual(run_from(NET, (3, 0), [0, 1, 0]), (0, 2))
        self.assertEqual(run_from(NET, (3, 0), (0, 1, 0)), (0, 2))

    def test_runs_of_nets_that_move(self):
        self.assertEqual(run_from(MOVING, (3, 4), [0]), (0, 6))
        with self.assertRaises(NotEnabled) as caught:
            run_from(MOVING, (3, 4), [0, 0])
        self.assertEqual(caught.exception.position, 1)

    def test_position_is_the_index_in_the_run(self):
        for run, position in [([0], 0), ([1, 0, 1], 1), ([1, 1, 0, 0], 3)]:
            with self.assertRaises(NotEnabled) as caught:
                run_from(NET, (0, 0), run)
            self.assertEqual(caught.exception.position, position)

    def test_great_numbers(self):
        self.assertEqual(run_from(NET, (HUGE, HUGE), [0, 0]), (HUGE - 4, HUGE + 2))


class NeedAndEffectTest(unittest.TestCase):
    def test_empty_run(self):
        self.assertEqual(need(NET, []), (0, 0))
        self.assertEqual(effect(NET, ()), (0, 0))

    def test_ordinary_runs(self):
        self.assertEqual(need(NET, [1, 0]), (1, 0))
        self.assertEqual(effect(NET, [1, 0]), (-1, 1))
        self.assertEqual(need(NET, (0, 1, 0)), (3, 0))
        self.assertEqual(effect(NET, (0, 1, 0)), (-3, 2))

    def test_a_run_can_be_fired_exactly_from_what_covers_its_need(self):
        for seed in range(12):
            net = small_net(seed, 2, 3, 2, 0)
            for run in product(range(3), repeat=3):
                least, change = need(net, run), effect(net, run)
                for marking in box(2, 5):
                    if covers(marking, least):
                        expected = tuple(number + step for number, step in zip(marking, change))
                        self.assertEqual(run_from(net, marking, run), expected)
                    else:
                        self.assertRaises(NotEnabled, run_from, net, marking, run)

    def test_not_plain(self):
        for function in (need, effect):
            self.assertRaises(NotPlain, function, MOVING, [0])
            self.assertRaises(NotPlain, function, MOVING, [])


class PartsTest(unittest.TestCase):
    def test_no_parts(self):
        self.assertEqual(fire_parts(NET, (1, 2), []), (1, 2))

    def test_times_0_and_1(self):
        self.assertEqual(fire_parts(NET, (0, 0), [((0, 0), 0), ([0], 0), ((1,), 1)]), (1, 0))

    def test_great_times(self):
        self.assertEqual(fire_parts(NET, (0, 0), [([1], 2 * HUGE), ((0,), HUGE)]), (0, HUGE))
        self.assertEqual(fire_parts(NET, (7, 0), [((), HUGE), ((1, 1, 0), HUGE)]), (7, HUGE))

    def test_position_is_the_index_of_the_part(self):
        cases = [
            ([((0,), 1)], 0),
            ([((1,), 2 * HUGE), ((0,), HUGE), ((1,), 1), ((0,), 1)], 3),
            ([((1,), 2 * HUGE - 1), ((0,), HUGE)], 1),
            ([((0, 0), 0), ((0, 1, 1), 1)], 1),
        ]
        for parts, position in cases:
            with self.assertRaises(NotEnabled) as caught:
                fire_parts(NET, (0, 0), parts)
            self.assertEqual(caught.exception.position, position)

    def test_parts_and_their_spread_lead_to_the_same(self):
        for seed in range(25):
            net = small_net(seed, 2, 3, 2, 0)
            for first, second in product(product(range(3), repeat=2), repeat=2):
                parts = [(first, seed % 4), (second, (seed + 2) % 4)]
                for marking in [(0, 0), (2, 1), (4, 4)]:
                    self.assert_same(net, marking, parts)

    def assert_same(self, net, marking, parts):
        try:
            expected = run_from(net, marking, spread(parts))
        except NotEnabled as error:
            with self.assertRaises(NotEnabled) as caught:
                fire_parts(net, marking, parts)
            self.assertEqual(caught.exception.position, 0 if error.position < len(spread(parts[:1])) else 1)
        else:
            self.assertEqual(fire_parts(net, marking, parts), expected)

    def test_not_plain_comes_first(self):
        self.assertRaises(NotPlain, fire_parts, MOVING, (0, 0), [((0,), 1)])
        self.assertRaises(NotPlain, fire_parts, MOVING, (0, 0), [])

    def test_arguments_stay_as_they_were(self):
        parts = [([1, 1], 2), ((0,), 1)]
        fire_parts(NET, (0, 0), parts)
        spread(parts).append(5)
        run = [1, 1]
        run_from(NET, (0, 0), run)
        need(NET, run)
        effect(NET, run)
        self.assertEqual((parts, run), ([([1, 1], 2), ((0,), 1)], [1, 1]))


class SpreadTest(unittest.TestCase):
    def test_ordinary_parts(self):
        self.assertEqual(spread([((1, 0), 2), ([2], 1), ((3,), 0)]), [1, 0, 1, 0, 2])

    def test_edges(self):
        self.assertEqual(spread([]), [])
        self.assertEqual(spread([((), HUGE), ([], HUGE), ((4,), 0)]), [])
        self.assertEqual(len(spread([((0, 1), 2500), ([2], 5000)])), 10000)


if __name__ == "__main__":
    unittest.main()
