import random
import unittest

from covernets.errors import NotPlain, TooMany
from covernets.forever import always_ends, forever, loop_for
from covernets.forward import limit_set
from covernets.graphs import explore, repeatable
from covernets.limits import admits
from covernets.nets import Net
from covernets.runs import effect, fire_parts, run_from
from helpers import HUGE, plain_net, small_net, staying, successors

EXAMPLE = plain_net(2, [((1, 0), (0, 2)), ((0, 2), (1, 0)), ((1, 1), (1, 0))])


def some_limit(seed, places, numbers):
    chooser = random.Random(seed)
    return tuple(chooser.choice(numbers) for _ in range(places))


def can_go_on(net, markings, index, longest):
    """Whether a run that is not longer leads from one of the markings with this transition to one that covers it."""
    for first in markings:
        seen = {(first, False)}
        waiting = [(first, False)]
        for _ in range(longest):
            following = []
            for marking, fired in waiting:
                for at, (takes, gives, _) in enumerate(net.transitions):
                    if all(number >= taken for number, taken in zip(marking, takes)):
                        after = tuple(number - taken + given for number, taken, given in zip(marking, takes, gives))
                        pair = (after, fired or at == index)
                        if pair[1] and all(number >= old for number, old in zip(after, first)):
                            return True
                        if pair not in seen:
                            seen.add(pair)
                            following.append(pair)
            waiting = following
    return False


def some_reachable(net, marking, limit):
    seen = [marking]
    for current in seen:
        for result in successors(net, current):
            if result not in seen and len(seen) < limit:
                seen.append(result)
    return seen


class ForeverTest(unittest.TestCase):
    def check(self, net, limit):
        """Check the loops of all transitions and return what forever returns."""
        found = forever(net, limit)
        self.assertIsInstance(found, list)
        self.assertIs(always_ends(net, limit), found == [])
        for index in range(len(net.transitions)):
            loop = loop_for(net, limit, index)
            if index not in found:
                self.assertIsNone(loop)
                continue
            self.assertIsInstance(loop, tuple)
            marking, parts, run = loop
            self.assertIsInstance(parts, list)
            self.assertTrue(all(isinstance(part, tuple) and isinstance(part[0], tuple) for part in parts))
            self.assertIsInstance(run, list)
            self.assertTrue(admits(limit, marking))
            run_from(net, fire_parts(net, marking, parts), run)
            self.assertIn(index, run)
            self.assertGreaterEqual(min(effect(net, run)), 0)
            self.assertEqual(loop_for(net, limit, index), loop)
            parts.append("more")
            run.append("more")
            self.assertNotEqual(loop_for(net, limit, index), loop)
        found.append("more")
        self.assertEqual(forever(net, limit), found[:-1])
        return found[:-1]

    def test_example(self):
        self.assertEqual((forever(EXAMPLE, (1, 0)), always_ends(EXAMPLE, (0, 1))), ([0, 1], True))
        for limit, expected in (((1, 0), [0, 1]), ((0, 1), []), ((1, 1), [0, 1]), ((-1, 0), [0, 1]), ((0, 3), [0, 1])):
            self.assertEqual(self.check(EXAMPLE, limit), expected)

    def test_zeros_only(self):
        self.assertEqual(self.check(EXAMPLE, (0, 0)), [])
        self.assertEqual(self.check(plain_net(2, [((0, 0), (1, 0)), ((1, 0), (0, 0)), ((0, 1), (0, 1))]), (0, 0)), [0, 1])

    def test_any_number(self):
        net = plain_net(2, [((1, 0), (0, 1)), ((0, 1), (0, 0)), ((0, 2), (0, 2))])
        self.assertEqual(self.check(net, (-1, -1)), [2])
        self.assertEqual(self.check(net, (-1, 0)), [2])
        self.assertEqual(self.check(net, (1, 0)), [])
        self.assertEqual(self.check(net, (2, 0)), [2])

    def test_nets_without_transitions(self):
        for limit in ((0, 0), (-1, 5)):
            self.assertEqual(self.check(Net(2, []), limit), [])
            self.assertIs(always_ends(Net(2, []), limit), True)

    def test_a_transition_without_effect(self):
        net = plain_net(1, [((2,), (2,))])
        self.assertEqual(self.check(net, (2,)), [0])
        self.assertEqual(self.check(net, (1,)), [])
        self.assertEqual(self.check(net, (-1,)), [0])
        self.assertEqual(self.check(plain_net(1, [((0,), (0,))]), (0,)), [0])

    def test_markings_below_the_limit_count(self):
        # The token of place 1 is needed, and with three tokens in place 0 nothing takes them away from there.
        net = plain_net(2, [((3, 1), (3, 0)), ((1, 1), (1, 1))])
        self.assertEqual(self.check(net, (1, 1)), [1])
        self.assertEqual(self.check(net, (3, 1)), [1])

    def test_tokens_that_are_made_and_spent(self):
        # The first makes two of what the second spends three of; only both together go on.
        net = plain_net(2, [((1, 0), (1, 2)), ((1, 3), (1, 0)), ((0, 1), (0, 0))])
        self.assertEqual(self.check(net, (1, 0)), [0, 1, 2])
        self.assertEqual(self.check(net, (0, -1)), [])

    def test_tokens_that_two_parts_share(self):
        # In state 0 tokens are made, in state 1 they are spent, and there is no way back from 1 to 0.
        net = plain_net(3, [((1, 0, 0), (1, 0, 1)), ((1, 0, 0), (0, 1, 0)), ((0, 1, 1), (0, 1, 0))])
        self.assertEqual(self.check(net, (1, 0, 0)), [0])
        back = plain_net(
            3, [((1, 0, 0), (1, 0, 1)), ((1, 0, 0), (0, 1, 0)), ((0, 1, 1), (0, 1, 0)), ((0, 1, 5), (1, 0, 0))]
        )
        self.assertEqual(self.check(back, (1, 0, 0)), [0, 1, 2, 3])

    def test_ways_that_cost_more_than_they_bring(self):
        # Each round loses a token of place 2, though each state alone could wait for ever.
        net = plain_net(3, [((1, 0, 1), (0, 1, 0)), ((0, 1, 0), (1, 0, 0)), ((0, 1, 0), (0, 1, 0))])
        self.assertEqual(self.check(net, (1, 0, -1)), [2])
        self.assertEqual(self.check(net, (1, 0, 5)), [2])

    def test_runs_that_do_not_hang_together(self):
        # What state 0 gives state 2 needs, and the ways between them cost tokens, too.
        net = plain_net(4, [
            ((1, 0, 0, 0), (1, 0, 0, 3)), ((1, 0, 0, 1), (0, 1, 0, 0)), ((0, 1, 0, 0), (0, 0, 1, 0)),
            ((0, 0, 1, 7), (0, 0, 1, 1)), ((0, 0, 1, 2), (1, 0, 0, 0)),
        ])
        self.assertEqual(self.check(net, (0, 1, 0, 0)), [])
        self.assertEqual(self.check(net, (0, 1, 0, 1)), [])
        self.assertEqual(self.check(net, (0, 1, 0, 2)), [0, 1, 2, 3, 4])

    def test_great_numbers(self):
        chain = plain_net(3, [((1, 0, 0), (0, 1, 0)), ((0, 2, 0), (0, 0, 1)), ((0, 0, 3), (0, 0, 3))])
        self.assertEqual(self.check(chain, (HUGE, 0, 0)), [2])
        self.assertEqual(self.check(chain, (5, HUGE, 0)), [2])
        self.assertEqual(self.check(chain, (6, 0, 0)), [2])
        self.assertEqual(self.check(chain, (5, 0, 0)), [])
        self.assertEqual(self.check(plain_net(2, [((1, 0), (0, 1)), ((0, 1), (1, 0))]), (HUGE, HUGE)), [0, 1])
        self.assertEqual(self.check(plain_net(2, [((2, 0), (0, 1)), ((0, 1), (1, 0))]), (HUGE, HUGE)), [])
        control = plain_net(2, [((1, 1), (1, 0)), ((2, 0), (2, 0)), ((1, 0), (1, 0))])
        self.assertEqual(self.check(control, (1, HUGE)), [2])

    def test_numbers_that_are_just_enough(self):
        net = plain_net(3, [((9, 0, 0), (0, 1, 0)), ((0, 9, 0), (0, 0, 1)), ((0, 0, 1), (0, 0, 1))])
        self.assertEqual(self.check(net, (81, 0, 0)), [2])
        self.assertEqual(self.check(net, (80, 0, 0)), [])
        self.assertEqual(self.check(net, (71, 1, 0)), [])
        self.assertEqual(self.check(net, (72, 1, 0)), [2])

    def test_greatest_nets(self):
        for seed in range(6):
            net = small_net(seed, 12, 24, 9, 0)
            limit = some_limit(seed, 12, (0, 1, -1, -1, HUGE))
            found = forever(net, limit)
            for index in found[:2]:
                marking, parts, run = loop_for(net, limit, index)
                self.assertTrue(admits(limit, marking))
                run_from(net, fire_parts(net, marking, parts), run)
                self.assertIn(index, run)
                self.assertGreaterEqual(min(effect(net, run)), 0)
                self.assertLess(len(run), 5000)

    def test_numbers_that_are_just_enough_among_many_limits(self):
        steps = [((9, 0, 0, 0), (0, 1, 0, 0)), ((0, 9, 0, 0), (0, 0, 1, 0)), ((0, 0, 9, 0), (0, 0, 0, 1))]
        net = plain_net(4, steps + [((0, 0, 0, 1), (0, 0, 0, 1))])
        self.assertGreater(len(limit_set(net, (728, 0, 0, 0))), 200)
        self.assertEqual(self.check(net, (728, 0, 0, 0)), [])
        self.assertEqual(self.check(net, (729, 0, 0, 0)), [3])
        self.assertEqual(self.check(net, (HUGE, 0, 0, 0)), [3])

    def test_bounded_nets(self):
        compared = 0
        for seed in range(400):
            net = small_net(seed, 1 + seed % 4, seed % 6, 1 + seed % 3, 0)
            marking = some_limit(seed, net.places, (0, 0, 1, 1, 2, 3))
            try:
                graph = explore(net, marking, 300)
            except TooMany:
                continue
            compared += 1
            self.assertEqual(self.check(net, marking), repeatable(graph))
        self.assertGreater(compared, 200)

    def test_many_nets(self):
        endless = none = 0
        for seed in range(400):
            net = small_net(seed, 1 + seed % 5, 1 + seed % 6, 1 + seed % 3, 0)
            found = self.check(net, some_limit(seed, net.places, (0, 0, 1, 2, -1, -1, 9, 50, HUGE)))
            endless += found != []
            none += found == []
        self.assertGreater(min(endless, none), 50)

    def test_nothing_else_goes_on(self):
        for seed in range(150):
            net = small_net(seed, 3, 3, 2, 0)
            marking = some_limit(seed, 3, (0, 1, 1, 2))
            found = forever(net, marking)
            for index in range(3):
                if index not in found:
                    self.assertFalse(can_go_on(net, some_reachable(net, marking, 12), index, 4))

    def test_not_plain(self):
        net = Net(2, [((0, 0), (0, 0), (1, 1))])
        with self.assertRaises(NotPlain):
            forever(net, (0, 0))
        with self.assertRaises(NotPlain):
            always_ends(net, (-1, 0))
        with self.assertRaises(NotPlain):
            loop_for(net, (0, HUGE), 0)
        losing = Net(2, [((0, 0), (0, 0), staying(2)), ((0, 0), (0, 0), (0, -1))])
        with self.assertRaises(NotPlain):
            forever(losing, (0, 0))


if __name__ == "__main__":
    unittest.main()
