import random
import unittest
from itertools import product

from covernets.decisions import decide
from covernets.errors import NotPlain
from covernets.linear import judge_linear, linear_paper
from covernets.nets import Net
from covernets.runs import effect
from helpers import HUGE, plain_net, small_net

# Two tokens of place 0 become one of place 1.
NET = plain_net(2, [((2, 0), (0, 1))])


def is_true(net, start, goal, paper):
    """What point 51 says, word by word."""
    (base, free), changes = start, [effect(net, [index]) for index in range(len(net.transitions))]
    if paper[0] == "flow":
        _, numbers, lift, divisor = paper
        if min(numbers, default=0) < 0 or lift < 0 or divisor < 1 or (free == -1 and lift != 0):
            return False
        return all(
            divisor * base[place] + (lift if place == free else 0)
            + sum(number * change[place] for number, change in zip(numbers, changes)) >= divisor * goal[place]
            for place in range(net.places)
        )
    _, weights = paper
    if min(weights) < 0 or (free != -1 and weights[free] != 0):
        return False
    if any(sum(weight * step for weight, step in zip(weights, change)) > 0 for change in changes):
        return False
    return sum(weight * (wanted - has) for weight, wanted, has in zip(weights, goal, base)) >= 1


class LinearTest(unittest.TestCase):
    def check(self, net, start, goal, kind=None):
        paper = linear_paper(net, start, goal)
        self.assertIsInstance(paper, tuple)
        self.assertIn(paper[0], ("flow", "weights"))
        if kind is not None:
            self.assertEqual(paper[0], kind)
        self.assertIsInstance(paper[1], tuple)
        self.assertEqual(len(paper[1]), len(net.transitions) if paper[0] == "flow" else net.places)
        self.assertEqual(len(paper), 4 if paper[0] == "flow" else 2)
        self.assertTrue(is_true(net, start, goal, paper), paper)
        self.assertIs(judge_linear(net, start, goal, paper), True)
        self.assertEqual(linear_paper(net, start, goal), paper)
        return paper

    def test_flows(self):
        self.check(NET, ((4, 0), -1), (0, 2), "flow")
        self.check(NET, ((5, 0), -1), (1, 2), "flow")
        self.check(NET, ((0, 0), 0), (1, 2), "flow")
        self.assertEqual(self.check(NET, ((4, 0), -1), (0, 1))[2], 0)

    def test_fractions(self):
        paper = self.check(NET, ((1, 1), -1), (0, 1), "flow")
        self.assertEqual(paper[0], "flow")
        thirds = plain_net(2, [((1, 0), (0, 3)), ((0, 1), (0, 0))])
        self.check(thirds, ((1, 0), -1), (0, 2), "flow")
        # Half a firing is enough for the flow, though no run leads there.
        halves = plain_net(2, [((2, 0), (0, 2))])
        self.check(halves, ((1, 0), -1), (0, 1), "flow")
        self.assertIs(decide(halves, ((1, 0), -1), [(0, 1)]).reachable, False)

    def test_weights(self):
        self.assertEqual(self.check(NET, ((3, 0), -1), (0, 2), "weights"), ("weights", (1, 2)))
        self.check(NET, ((3, 0), 1), (4, 0), "weights")
        self.check(NET, ((9, 9), -1), (10, 0), "weights")
        self.check(NET, ((4, 0), 1), (5, HUGE), "weights")

    def test_goals_that_base_covers(self):
        self.assertEqual(self.check(NET, ((4, 1), -1), (4, 1)), ("flow", (0,), 0, 1))
        self.assertEqual(self.check(NET, ((4, 1), 0), (0, 0)), ("flow", (0,), 0, 1))

    def test_nets_without_transitions(self):
        net = Net(2, [])
        self.assertEqual(self.check(net, ((1, 2), -1), (1, 2)), ("flow", (), 0, 1))
        self.assertEqual(self.check(net, ((1, 2), -1), (1, 3)), ("weights", (0, 1)))
        self.assertEqual(self.check(net, ((1, 2), 1), (1, 9)), ("flow", (), 7, 1))
        self.check(net, ((1, 2), 1), (2, 9), "weights")

    def test_transitions_without_effect(self):
        self.check(plain_net(1, [((2,), (2,))]), ((1,), -1), (2,), "weights")
        self.check(plain_net(1, [((2,), (2,))]), ((1,), 0), (2,), "flow")

    def test_great_numbers(self):
        self.check(NET, ((2 * HUGE, 0), -1), (0, HUGE), "flow")
        self.check(NET, ((2 * HUGE, 0), -1), (1, HUGE), "weights")
        self.check(NET, ((0, 0), 0), (1, HUGE), "flow")

    def test_many_nets(self):
        kinds = {"flow": 0, "weights": 0}
        for seed in range(800):
            chooser = random.Random(seed)
            places = chooser.randint(1, 5)
            net = small_net(seed, places, seed % 6, 1 + seed % 9, 0)
            start = (tuple(chooser.randint(0, 3) for _ in range(places)), chooser.randint(-1, places - 1))
            goal = tuple(chooser.choice((0, 1, 2, 5)) for _ in range(places))
            paper = self.check(net, start, goal)
            kinds[paper[0]] += 1
            if paper[0] == "weights" and seed % 4 == 0:
                self.assertIs(decide(net, start, [goal]).reachable, False)
        self.assertGreater(min(kinds.values()), 150)

    def test_greatest_nets(self):
        for seed in range(10):
            net = small_net(seed, 12, 24, 9, 0)
            self.check(net, ((0, 1) * 6, seed - 1), tuple(range(12)))


class JudgeTest(unittest.TestCase):
    def judged(self, paper, start=((4, 0), -1), goal=(1, 1), net=NET):
        self.assertIs(judge_linear(net, start, goal, paper), is_true(net, start, goal, paper))
        return judge_linear(net, start, goal, paper)

    def test_flows(self):
        self.assertIs(self.judged(("flow", (1,), 0, 1)), True)
        self.assertIs(self.judged(("flow", (3,), 0, 2)), True)
        self.assertIs(self.judged(("flow", (2,), 0, 1)), False)
        self.assertIs(self.judged(("flow", (0,), 0, 1)), False)
        self.assertIs(self.judged(("flow", (1,), 0, 0)), False)
        self.assertIs(self.judged(("flow", (-1,), 0, -1)), False)
        self.assertIs(self.judged(("flow", (0,), 0, 0)), False)
        self.assertIs(self.judged(("flow", (-1,), 0, 1), ((0, 1), -1), (2, 0)), False)

    def test_lifts(self):
        self.assertIs(self.judged(("flow", (2,), 1, 1)), False)
        self.assertIs(self.judged(("flow", (1,), 1, 1)), False)
        self.assertIs(self.judged(("flow", (2,), 1, 1), ((4, 0), 0)), True)
        self.assertIs(self.judged(("flow", (2,), 1, 1), ((4, 0), 1)), False)
        self.assertIs(self.judged(("flow", (0,), 1, 1), ((4, 0), 1)), True)
        self.assertIs(self.judged(("flow", (0,), 1, 2), ((4, 0), 1)), False)
        self.assertIs(self.judged(("flow", (1,), -1, 1), ((4, 0), 0)), False)

    def test_weights(self):
        for weights, expected in (((1, 2), True), ((2, 4), True), ((1, 1), False), ((1, 3), False), ((2, 1), False)):
            self.assertIs(self.judged(("weights", weights), ((3, 0), -1), (0, 2)), expected)
        self.assertIs(self.judged(("weights", (1, 2)), ((3, 0), 0), (0, 2)), False)
        self.assertIs(self.judged(("weights", (1, 0)), ((3, 0), 1), (4, 0)), True)
        self.assertIs(self.judged(("weights", (0, 0)), ((3, 0), -1), (0, 2)), False)
        self.assertIs(self.judged(("weights", (-1, -2)), ((4, 0), -1), (0, 1)), False)
        self.assertIs(self.judged(("weights", (-1, 0)), ((4, 0), -1), (3, 0), Net(2, [])), False)

    def test_there_is_never_both(self):
        for weights in product(range(-3, 5), repeat=2):
            self.assertIs(self.judged(("weights", weights), ((4, 0), -1), (0, 2)), False)
        for numbers, lift, divisor in product(range(-1, 5), range(-1, 3), range(-1, 4)):
            self.assertIs(self.judged(("flow", (numbers,), lift, divisor), ((3, 0), -1), (0, 2)), False)

    def test_arguments_stay(self):
        start, goal, paper = ((4, 0), 0), (1, 1), ("flow", (1,), 0, 1)
        judge_linear(NET, start, goal, paper)
        linear_paper(NET, start, goal)
        self.assertEqual((start, goal, paper), (((4, 0), 0), (1, 1), ("flow", (1,), 0, 1)))

    def test_not_plain(self):
        for moves in ((1, 1), (0, -1)):
            net = Net(2, [((0, 0), (0, 0), moves)])
            with self.assertRaises(NotPlain):
                linear_paper(net, ((0, 0), -1), (0, 0))
            for paper in (("flow", (0,), 0, 1), ("weights", (1, 1))):
                with self.assertRaises(NotPlain):
                    judge_linear(net, ((0, 0), -1), (0, 0), paper)


if __name__ == "__main__":
    unittest.main()
