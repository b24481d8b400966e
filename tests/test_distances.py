import unittest

from covernets.backward import Search, has_way, is_over, silent
from covernets.configs import ConfigTops
from covernets.distances import Layers, Trail, shortest_run
from covernets.language import parse_protocol
from covernets.scopes import Scope, all_rules
from helpers import HUGE, plain_net

STEP = plain_net(2, [((1, 0), (0, 1))])
TEXT = (
    "states a b c\nstart a\nshared v x y\nchannel box s t\nrule go: a -> b send box = s\nrule old: a -> c if v = y\n"
    "rule get: b -> b hear box = s\nrule no: a -> c hear box = t\nbad c 1\n"
)


class TopsTest(unittest.TestCase):
    def test_covered_configurations(self):
        tops = ConfigTops([((-2, -1), ((0, 1),)), ((-1, -5), ((1,),))])
        for marking, words, expected in (
            ((2, 1), ((0, 1),), True), ((2, 0), ((),), True), ((1, 5), ((),), True), ((1, 5), ((0,),), False),
            ((3, 0), ((),), False), ((0, 0), ((1, 0),), False), ((0, 0), ((0, 1, 1),), False), ((0, 1), ((1,),), True),
        ):
            self.assertIs(tops.contains((tuple(-number for number in marking), words)), expected)
        tops.include(((-3, 0), ((1, 0),)))
        self.assertIs(tops.contains(((0, 0), ((1, 0),))), True)
        self.assertIs(tops.contains(((-3, 0), ((),))), True)


class CapTest(unittest.TestCase):
    def test_is_over(self):
        self.assertIs(is_over([], (HUGE, 0)), False)
        self.assertIs(is_over([((1, 2), 4)], (2, 1)), False)
        self.assertIs(is_over([((1, 0), 9), ((1, 2), 4)], (1, 2)), True)

    def test_searches_leave_out_what_is_over(self):
        goals = [((0, 3), ())]
        every = sorted(Search(STEP, silent(STEP), goals, None).basis.members)
        self.assertEqual([marking for marking, _ in every], [(0, 3), (1, 2), (2, 1), (3, 0)])
        some = Search(STEP, silent(STEP), goals, None, [((1, 0), 1)]).basis.members
        self.assertEqual([marking for marking, _ in sorted(some)], [(0, 3), (1, 2)])
        layers = Layers(STEP, silent(STEP), goals, [((1, 0), 1)])
        layers.add_layer()
        self.assertEqual((layers.layer_of(((1, 2), ())), layers.is_done()), (1, False))
        layers.add_layer()
        self.assertEqual((layers.layer_of(((2, 1), ())), layers.is_done()), (None, True))

    def test_limits_in_searches(self):
        self.assertIsNotNone(Search(STEP, silent(STEP), [((0, 9), ())], ((-1, 0), ())).found)
        self.assertIsNone(Search(STEP, silent(STEP), [((0, 9), ())], ((8, 0), ())).found)
        self.assertIsNone(Search(STEP, silent(STEP), [((0, 9), ())], ((-1, 0), ()), [((1, 1), 8)]).found)
        self.assertIs(has_way(STEP, silent(STEP), [((0, 3), ())], ((2, 1), ()), []), True)
        self.assertIs(has_way(STEP, silent(STEP), [((0, 3), ())], ((2, 0), ()), []), False)
        self.assertIs(has_way(STEP, silent(STEP), [((0, HUGE), ())], ((HUGE, 0), ()), []), True)
        self.assertIs(has_way(STEP, silent(STEP), [((1, HUGE), ())], ((HUGE, 0), ()), []), False)


class ScopeTest(unittest.TestCase):
    def test_possible_rules(self):
        protocol = parse_protocol(TEXT)
        scope = Scope(protocol, all_rules(protocol), (2, 0, 0, 1, 0))
        self.assertEqual(scope.indexes, [0, 2])
        self.assertEqual(len(scope.net.transitions), 2)
        self.assertIs(is_over(scope.caps, (1, 1, 0, 1, 0)), False)
        for marking in ((0, 0, 1, 1, 0), (0, 0, 0, 0, 1), (0, 0, 0, 2, 0), (3, 0, 0, 1, 0), (2, 1, 0, 0, 0)):
            self.assertIs(is_over(scope.caps, marking), True)
        any_number = Scope(protocol, [0, 1], (-1, 0, 0, 1, 0))
        self.assertEqual(any_number.indexes, [0])
        self.assertIs(is_over(any_number.caps, (HUGE, HUGE, 0, 1, 0)), False)

    def test_births(self):
        protocol = parse_protocol("states a b\nstart a\nrule grow: a -> a new b\nbad b 3\n")
        self.assertIs(is_over(Scope(protocol, [0], (1, 0)).caps, (9, 9)), False)
        self.assertEqual(Scope(protocol, [], (1, 0)).indexes, [])
        self.assertIs(is_over(Scope(protocol, [], (1, 0)).caps, (2, 0)), True)


class RunTest(unittest.TestCase):
    def test_layers_are_used_again(self):
        net = plain_net(2, [((1, 0), (0, 1)), ((0, 0), (1, 0))])
        layers = Layers(net, silent(net), [((0, 4), ())], [])
        self.assertEqual(shortest_run(layers, ((1, 3), ())), [0])
        self.assertEqual(shortest_run(layers, ((0, 2), ())), [1, 0, 1, 0])
        self.assertEqual(shortest_run(layers, ((0, 0), ())), [1, 0, 1, 0, 1, 0, 1, 0])
        self.assertEqual(shortest_run(layers, ((1, 3), ())), [0])
        self.assertEqual(shortest_run(layers, ((0, 4), ())), [])

    def test_trails(self):
        net = plain_net(2, [((1, 0), (0, 1)), ((1, 0), (0, 2)), ((1, 0), (0, 0))])
        trail = Trail(net, silent(net), ((2, 0), ()))
        trail.advance()
        # The last transition leads to what the first one covers; the first to what the second covers, but later.
        self.assertEqual([trail.configs[number][0] for number in trail.front], [(1, 1), (1, 2)])
        trail.advance()
        self.assertEqual([trail.run_to(number) for number in trail.front], [[0, 1], [1, 1]])


if __name__ == "__main__":
    unittest.main()
