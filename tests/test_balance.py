import unittest

from covernets.balance import balance, judge_balance
from covernets.errors import NotPlain
from covernets.nets import Net
from covernets.runs import effect, run_from
from helpers import HUGE, plain_net, reachable, small_net

# Two tokens of place 0 become one of place 1; one of place 1 becomes one of place 2.
NET = plain_net(3, [((2, 0, 0), (0, 1, 0)), ((0, 1, 0), (0, 0, 1))])
MOVING = Net(2, [((0, 0), (0, 0), (1, 1))])


def is_true(net, first, second, paper):
    """What point 26 says, word by word."""
    changes = [effect(net, [index]) for index in range(len(net.transitions))]
    if paper[0] == "flow":
        _, numbers, divisor = paper
        after = [
            divisor * number + sum(times * change[place] for times, change in zip(numbers, changes))
            for place, number in enumerate(first)
        ]
        return divisor >= 1 and min(numbers, default=0) >= 0 and after == [divisor * number for number in second]
    _, weights = paper
    if any(sum(w * step for w, step in zip(weights, change)) > 0 for change in changes):
        return False
    return sum(w * (after - before) for w, before, after in zip(weights, first, second)) >= 1


class BalanceTest(unittest.TestCase):
    def check(self, net, first, second, kind):
        paper = balance(net, first, second)
        self.assertIsInstance(paper, tuple)
        self.assertEqual(paper[0], kind)
        self.assertIsInstance(paper[1], tuple)
        self.assertEqual(len(paper[1]), len(net.transitions) if kind == "flow" else net.places)
        self.assertEqual(len(paper), 3 if kind == "flow" else 2)
        self.assertTrue(is_true(net, first, second, paper), paper)
        self.assertIs(judge_balance(net, first, second, paper), True)
        self.assertEqual(balance(net, first, second), paper)
        return paper

    def test_ordinary(self):
        self.assertEqual(self.check(NET, (4, 0, 0), (0, 1, 1), "flow"), ("flow", (2, 1), 1))
        self.check(NET, (4, 0, 0), (0, 1, 2), "bar")
        self.check(NET, (0, 0, 1), (0, 1, 0), "bar")

    def test_fractions(self):
        self.assertEqual(self.check(plain_net(1, [((0,), (3,))]), (0,), (2,), "flow"), ("flow", (2,), 3))
        net = plain_net(2, [((2, 0), (0, 3)), ((0, 2), (3, 0))])
        self.check(net, (1, 1), (2, 1), "flow")

    def test_same_marking(self):
        self.assertEqual(self.check(NET, (4, 0, 0), (4, 0, 0), "flow"), ("flow", (0, 0), 1))

    def test_no_transitions(self):
        net = Net(2, [])
        self.assertEqual(self.check(net, (1, 2), (1, 2), "flow"), ("flow", (), 1))
        self.check(net, (1, 2), (1, 1), "bar")
        self.check(net, (1, 2), (2, 2), "bar")

    def test_transitions_without_effect(self):
        net = plain_net(1, [((2,), (2,))])
        self.check(net, (1,), (1,), "flow")
        self.check(net, (1,), (0,), "bar")

    def test_great_numbers(self):
        self.check(NET, (2 * HUGE, 0, 0), (0, 0, HUGE), "flow")
        self.check(NET, (2 * HUGE, 0, 0), (1, 0, HUGE), "bar")
        self.check(plain_net(1, [((7,), (0,))]), (HUGE,), (0,), "flow")

    def test_many_nets(self):
        kinds = {"flow": 0, "bar": 0}
        for seed in range(600):
            net = small_net(seed, 1 + seed % 4, seed % 6, 1 + seed % 9, 0)
            first = tuple((seed * (place + 3)) % 7 for place in range(net.places))
            second = tuple((seed * (place + 5) + 1) % 5 for place in range(net.places))
            kind = balance(net, first, second)[0]
            self.check(net, first, second, kind)
            kinds[kind] += 1
        self.assertGreater(min(kinds.values()), 50)

    def test_reachable_markings_have_flows(self):
        for seed in range(80):
            net = small_net(seed, 3, 3, 2, 0)
            for marking in sorted(reachable(net, (1, 1, 2), 60) or [])[:20]:
                self.check(net, (1, 1, 2), marking, "flow")

    def test_greatest_nets(self):
        for seed in range(10):
            net = small_net(seed, 12, 24, 9, 0)
            first, second = (5,) * 12, tuple(range(12))
            self.check(net, first, second, balance(net, first, second)[0])


class JudgeBalanceTest(unittest.TestCase):
    def judged(self, paper, first=(4, 0, 0), second=(0, 1, 1)):
        self.assertIs(judge_balance(NET, first, second, paper), is_true(NET, first, second, paper))
        return judge_balance(NET, first, second, paper)

    def test_flows(self):
        self.assertIs(self.judged(("flow", (2, 1), 1)), True)
        self.assertIs(self.judged(("flow", (4, 2), 2)), True)
        self.assertIs(self.judged(("flow", (4, 2), 1)), False)
        self.assertIs(self.judged(("flow", (2, 1), 0)), False)
        self.assertIs(self.judged(("flow", (0, 0), 0)), False)
        self.assertIs(self.judged(("flow", (-2, -1), -1)), False)
        self.assertIs(self.judged(("flow", (1, -1), 1), (2, 0, 1), (0, 2, 0)), False)
        self.assertIs(self.judged(("flow", (2, 0), 1)), False)

    def test_bars(self):
        self.assertIs(self.judged(("bar", (0, -1, -1)), (0, 0, 2), (0, 0, 1)), True)
        self.assertIs(self.judged(("bar", (1, 2, 2)), (0, 0, 2), (0, 0, 3)), True)
        self.assertIs(self.judged(("bar", (1, 2, 2)), (0, 0, 2), (0, 0, 2)), False)
        self.assertIs(self.judged(("bar", (1, 2, 2)), (0, 0, 2), (0, 0, 1)), False)
        self.assertIs(self.judged(("bar", (1, 3, 2)), (0, 0, 2), (0, 1, 2)), False)
        self.assertIs(self.judged(("bar", (1, 2, 3)), (0, 0, 2), (0, 1, 2)), False)
        self.assertIs(self.judged(("bar", (0, 0, 0)), (0, 0, 2), (0, 1, 2)), False)
        self.assertIs(self.judged(("bar", (0, 0, -1)), (0, 0, 2), (0, 0, 1)), True)

    def test_there_is_never_both(self):
        for weights in ((a, b, c) for a in range(-3, 4) for b in range(-3, 4) for c in range(-3, 4)):
            self.assertIs(self.judged(("bar", weights)), False)

    def test_no_transitions(self):
        self.assertIs(judge_balance(Net(1, []), (1,), (1,), ("flow", (), 3)), True)
        self.assertIs(judge_balance(Net(1, []), (1,), (2,), ("flow", (), 1)), False)
        self.assertIs(judge_balance(Net(1, []), (1,), (2,), ("bar", (1,))), True)
        self.assertIs(judge_balance(Net(1, []), (1,), (2,), ("bar", (-1,))), False)


class CommonTest(unittest.TestCase):
    def test_not_plain(self):
        with self.assertRaises(NotPlain):
            balance(MOVING, (0, 0), (0, 0))
        for paper in (("flow", (0,), 1), ("bar", (1, 1))):
            with self.assertRaises(NotPlain):
                judge_balance(MOVING, (0, 0), (0, 0), paper)

    def test_flow_without_run(self):
        net = plain_net(2, [((2, 0), (1, 1))])
        self.assertEqual(balance(net, (1, 0), (0, 1)), ("flow", (1,), 1))
        self.assertEqual(run_from(net, (2, 0), [0]), (1, 1))


if __name__ == "__main__":
    unittest.main()
