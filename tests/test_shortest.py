import random
import unittest

from covernets.backward import alone, silent, way
from covernets.closed import in_closed
from covernets.distances import Layers, shortest_run
from covernets.nets import Net, enabled, fire
from covernets.runs import run_from
from covernets.shortest import distance, shortest_way
from helpers import HUGE, plain_net, small_net, staying

EXAMPLE = plain_net(2, [((1, 0), (0, 1)), ((1, 0), (0, 3))])


def first_shortest(net, goals, marking, limit):
    """The shortest way, from all runs in their order; "many" if more than limit markings are seen."""
    runs = {marking: []}
    level = [marking]
    while level:
        for current in level:
            if in_closed(goals, current):
                return runs[current]
        following = []
        for current in level:
            for index in range(len(net.transitions)):
                if enabled(net, index, current):
                    result = fire(net, index, current)
                    if result not in runs:
                        runs[result] = runs[current] + [index]
                        following.append(result)
        if len(runs) > limit:
            return "many"
        level = following
    return None


class ShortestTest(unittest.TestCase):
    def check(self, net, goals, marking):
        before = list(goals)
        run = shortest_way(net, goals, marking)
        self.assertEqual(distance(net, goals, marking), None if run is None else len(run))
        self.assertEqual(run is None, way(net, goals, marking) is None)
        if run is not None:
            self.assertIsInstance(run, list)
            self.assertTrue(in_closed(goals, run_from(net, marking, run)))
            run.append("more")
            self.assertEqual(shortest_way(net, goals, marking), run[:-1])
            run.pop()
        self.assertEqual(goals, before)
        return run

    def test_example(self):
        self.assertEqual(self.check(EXAMPLE, [(0, 4)], (3, 0)), [0, 1])
        self.assertEqual(distance(EXAMPLE, [(0, 4)], (3, 0)), 2)

    def test_goals_that_the_marking_covers(self):
        self.assertEqual(self.check(EXAMPLE, [(9, 9), (1, 0)], (3, 0)), [])
        self.assertEqual(self.check(Net(1, []), [(0,)], (0,)), [])

    def test_no_goals_and_goals_that_no_run_reaches(self):
        self.assertIsNone(self.check(EXAMPLE, [], (3, 0)))
        self.assertIsNone(self.check(EXAMPLE, [(1, 1)], (0, 5)))
        self.assertIsNone(self.check(EXAMPLE, [(0, 4)], (1, 0)))
        self.assertIsNone(self.check(Net(1, []), [(1,)], (0,)))
        endless = plain_net(2, [((0, 0), (1, 0)), ((2, 0), (1, 0))])
        self.assertIsNone(self.check(endless, [(0, 1)], (5, 0)))

    def test_runs_of_the_same_length(self):
        net = plain_net(3, [((0, 0, 0), (0, 0, 0)), ((1, 0, 0), (0, 1, 0)), ((1, 0, 0), (0, 0, 1)), ((0, 1, 0), (0, 0, 1))])
        self.assertEqual(self.check(net, [(0, 1, 1)], (2, 0, 0)), [1, 2])
        self.assertEqual(self.check(net, [(0, 0, 2)], (2, 0, 0)), [2, 2])
        self.assertEqual(self.check(net, [(0, 1, 0), (0, 0, 1)], (1, 0, 0)), [1])
        # The first goal needs the later transition.
        self.assertEqual(self.check(net, [(0, 0, 1), (0, 1, 0)], (1, 0, 0)), [1])

    def test_a_smaller_marking_may_come_first(self):
        # What 0 leads to is covered by what 1 leads to, but from both one step is enough.
        net = plain_net(3, [((1, 0, 0), (0, 1, 0)), ((1, 0, 0), (0, 2, 0)), ((0, 1, 0), (0, 0, 1))])
        self.assertEqual(self.check(net, [(0, 0, 1)], (1, 0, 0)), [0, 2])
        self.assertEqual(self.check(net, [(0, 1, 1)], (1, 0, 0)), [1, 2])

    def test_the_nearest_goal(self):
        net = plain_net(1, [((0,), (1,)), ((3,), (9,))])
        self.assertEqual(self.check(net, [(8,), (20,)], (0,)), [0, 0, 0, 1])
        self.assertEqual(self.check(net, [(4,), (8,)], (0,)), [0, 0, 0, 0])
        self.assertEqual(self.check(net, [(5,)], (0,)), [0, 0, 0, 1])

    def test_transfers_and_losses(self):
        net = Net(2, [((1, 0), (0, 0), (0, 1)), ((0, 0), (0, 0), (1, 1)), ((0, 1), (0, 0), (1, -1))])
        self.assertEqual(self.check(net, [(0, 4)], (4, 0)), [1])
        self.assertEqual(self.check(net, [(0, 4)], (3, 1)), [1])
        self.assertIsNone(self.check(net, [(0, 4)], (1, 2)))
        self.assertEqual(self.check(net, [(0, 2)], (2, 1)), [1])
        self.assertEqual(self.check(net, [(0, HUGE)], (HUGE, 0)), [1])
        self.assertIsNone(self.check(net, [(0, HUGE)], (HUGE - 1, 0)))

    def test_great_numbers(self):
        self.assertEqual(self.check(EXAMPLE, [(HUGE, 4)], (HUGE + 2, 0)), [0, 1])
        self.assertEqual(self.check(EXAMPLE, [(0, HUGE + 7)], (9, HUGE)), [0, 1, 1])
        self.assertIsNone(self.check(EXAMPLE, [(HUGE, 4)], (HUGE + 1, 0)))
        self.assertIsNone(self.check(EXAMPLE, [(HUGE, HUGE)], (HUGE + HUGE // 4, 0)))

    def test_long_ways(self):
        net = plain_net(2, [((0, 0), (1, 0)), ((2, 0), (0, 1))])
        run = self.check(net, [(0, 100)], (0, 0))
        self.assertEqual((len(run), sorted(set(run))), (300, [0, 1]))
        self.assertEqual(run, [0] * 200 + [1] * 100)

    def test_many_ways_of_the_same_length(self):
        # Each of 4 places gets its tokens from a transition of its own, in any order.
        rows = [tuple(int(place == other) for other in range(4)) for place in range(4)]
        net = plain_net(4, [((0, 0, 0, 0), row) for row in rows])
        run = self.check(net, [(40, 40, 40, 40)], (0, 5, 0, 0))
        self.assertEqual(run, [0] * 40 + [1] * 35 + [2] * 40 + [3] * 40)
        run = self.check(net, [(40, 40, 40, 40), (99, 0, 50, 0)], (0, 5, 0, 0))
        self.assertEqual(run, [0] * 99 + [2] * 50)

    def test_great_goals_that_no_run_reaches(self):
        # Place 1 would grow without end if it had a token.
        net = plain_net(2, [((0, 0), (1, 0)), ((1, 1), (0, 2))])
        self.assertIsNone(self.check(net, [(0, HUGE)], (0, 0)))
        moving = Net(3, [((0, 0, 0), (1, 0, 0), (0, 1, 2)), ((1, 1, 0), (0, 2, 0), (0, 1, 1))])
        self.assertIsNone(self.check(moving, [(0, HUGE, 0)], (0, 0, 0)))

    def test_great_distances(self):
        step, mixed = plain_net(2, [((1, 0), (0, 1))]), plain_net(2, [((1, 0), (0, 1)), ((2, 0), (0, 3)), ((0, 4), (1, 0))])
        self.assertEqual(distance(step, [(0, HUGE), (1, HUGE - 1)], (HUGE, 0)), HUGE - 1)
        self.assertIsNone(distance(step, [(0, HUGE)], (HUGE - 1, 0)))
        self.assertEqual(distance(mixed, [(0, 3 * HUGE)], (2 * HUGE, 0)), HUGE)
        self.assertEqual(distance(mixed, [(0, 3 * HUGE + 1)], (2 * HUGE + 1, 0)), HUGE + 1)

    def test_plans_tell_what_a_search_finds(self):
        long = 0
        for seed in range(500):
            chooser = random.Random(seed)
            places = chooser.randint(2, 4)
            net = small_net(seed, places, chooser.randint(1, 4), chooser.randint(1, 3), 0)
            goals = [tuple(chooser.choice((0, 0, 5, 12, 20)) for _ in range(places)) for _ in range(1 + seed % 2)]
            marking = tuple(chooser.choice((0, 1, 9, 25)) for _ in range(places))
            if way(net, goals, marking) is not None and len(way(net, goals, marking)) < 60:
                layers = Layers(net, silent(net), alone(goals), ())
                expected = shortest_run(layers, (marking, ()))
                self.assertEqual(self.check(net, goals, marking), expected)
                long += len(expected) > 8
        self.assertGreater(long, 40)

    def test_many_nets(self):
        found = {"none": 0, "long": 0, "moving": 0}
        for seed in range(700):
            chooser = random.Random(seed)
            places = chooser.randint(1, 4)
            net = small_net(seed, places, chooser.randint(0, 4), chooser.randint(1, 3), seed % 4)
            goals = [tuple(chooser.choice((0, 0, 1, 2, 4, 7)) for _ in range(places)) for _ in range(seed % 4)]
            marking = tuple(chooser.randint(0, 3) for _ in range(places))
            run = self.check(net, goals, marking)
            expected = first_shortest(net, goals, marking, 2000)
            if expected != "many":
                self.assertEqual(run, expected)
            if run is None:
                found["none"] += 1
            elif len(run) > 1:
                found["long"] += 1
                found["moving"] += any(net.transitions[index][2] != staying(places) for index in run)
        self.assertGreater(min(found.values()), 20)


if __name__ == "__main__":
    unittest.main()
