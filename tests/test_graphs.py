import random
import unittest
from itertools import product

from covernets.errors import TooMany
from covernets.graphs import Graph, explore, homes, live, repeatable, route, stuck
from covernets.nets import Net, enabled, fire
from covernets.runs import run_from
from helpers import HUGE, plain_net, reachable, small_net

# A token goes from place 0 to place 1 and back; two tokens of place 1 become one.
NET = plain_net(2, [((1, 0), (0, 1)), ((0, 1), (1, 0)), ((0, 2), (0, 1))])


def marking_by_marking(net, marking):
    """The markings and moves of point 28, by a second way: run after run in the order of lengths and numbers."""
    markings, moves = [marking], []
    for current in markings:
        moves.append([])
        for index in range(len(net.transitions)):
            result = fire(net, index, current) if enabled(net, index, current) else None
            if result is not None and result not in markings:
                markings.append(result)
            moves[-1].append(-1 if result is None else markings.index(result))
    return markings, moves


def reached_from(graph):
    """For each marking the set of the numbers of the markings that runs lead to from it."""
    found = [{number} for number in range(len(graph.moves))]
    grows = True
    while grows:
        grows = False
        for number, row in enumerate(graph.moves):
            for target in row:
                if target != -1 and not found[target] <= found[number]:
                    found[number] |= found[target]
                    grows = True
    return found


def keeping_net(seed, places, transitions):
    """A net whose transitions give as many tokens as they take, and move but do not lose any."""
    chooser = random.Random(seed)

    def row(many):
        chosen = [chooser.randrange(places) for _ in range(many)]
        return tuple(chosen.count(place) for place in range(places))

    found = []
    for _ in range(transitions):
        many = chooser.randint(1, 2)
        moves = tuple(chooser.randrange(places) if chooser.random() < 0.1 else place for place in range(places))
        found.append((row(many), row(many), moves))
    return Net(places, found)


def bounded_graphs(many, places=3, transitions=4):
    """Graphs of many small nets with a few markings each, with the nets."""
    found = []
    for seed in range(many):
        net = small_net(seed, places, transitions, 2, seed % 4)
        if seed % 2 == 1:
            net = keeping_net(seed, places, transitions)
        marking = tuple((seed + place) % 3 for place in range(places))
        if reachable(net, marking, 40) is not None:
            found.append((net, marking, explore(net, marking, 40)))
    return found


class GraphTest(unittest.TestCase):
    def test_copies(self):
        markings, moves = [[1, 0], (0, 1)], [[1], [-1]]
        graph = Graph(markings, moves)
        markings[0][0] = 5
        moves[0][0] = 0
        moves.append([3])
        self.assertEqual((graph.markings, graph.moves), (((1, 0), (0, 1)), ((1,), (-1,))))
        self.assertEqual((stuck(graph), route(graph, 0, 1)), ([1], [0]))

    def test_example(self):
        graph = explore(NET, (2, 0), 10)
        self.assertEqual(graph.markings, ((2, 0), (1, 1), (0, 2), (0, 1), (1, 0)))
        self.assertEqual(graph.moves, ((1, -1, -1), (2, 0, -1), (-1, 1, 3), (-1, 4, -1), (3, -1, -1)))
        self.assertEqual((homes(graph), live(graph)), ([3, 4], [0, 1]))
        self.assertEqual((stuck(graph), repeatable(graph)), ([], [0, 1]))

    def test_equal_results(self):
        marking = [2, 0]
        first, second = explore(NET, marking, 10), explore(NET, marking, 11)
        self.assertEqual((first.markings, first.moves), (second.markings, second.moves))
        self.assertEqual(marking, [2, 0])
        for row in first.markings + first.moves + (first.markings, first.moves):
            self.assertIsInstance(row, tuple)

    def test_limit_that_is_just_enough(self):
        self.assertEqual(len(explore(NET, (2, 0), 5).markings), 5)
        for limit in (1, 2, 3, 4):
            with self.assertRaises(TooMany):
                explore(NET, (2, 0), limit)
        self.assertEqual(explore(NET, (0, 0), 1).markings, ((0, 0),))

    def test_infinitely_many_markings(self):
        with self.assertRaises(TooMany):
            explore(plain_net(1, [((0,), (1,))]), (0,), 1000)

    def test_no_transitions(self):
        graph = explore(Net(2, []), (3, 1), 1)
        self.assertEqual((graph.markings, graph.moves), (((3, 1),), ((),)))
        self.assertEqual((stuck(graph), live(graph), homes(graph), repeatable(graph)), ([0], [], [0], []))
        self.assertEqual(route(graph, 0, 0), [])

    def test_transition_without_effect(self):
        graph = explore(plain_net(1, [((1,), (1,)), ((2,), (2,))]), (1,), 1)
        self.assertEqual(graph.moves, ((0, -1),))
        self.assertEqual((stuck(graph), live(graph), homes(graph), repeatable(graph)), ([], [0], [0], [0]))

    def test_transfers_and_losses(self):
        net = Net(2, [((1, 0), (0, 0), (1, -1)), ((0, 1), (0, 0), (0, -1))])
        graph = explore(net, (HUGE, 7), 9)
        self.assertEqual(graph.markings, ((HUGE, 7), (0, HUGE - 1), (HUGE, 0), (0, 0)))
        self.assertEqual(graph.moves, ((1, 2), (-1, 3), (1, -1), (-1, -1)))
        self.assertEqual((stuck(graph), live(graph), homes(graph), repeatable(graph)), ([3], [], [3], []))

    def test_graphs_of_many_nets(self):
        graphs = bounded_graphs(400)
        self.assertGreater(len(graphs), 100)
        self.assertGreater(len([graph for _, _, graph in graphs if len(graph.markings) > 5]), 30)
        for net, marking, graph in graphs:
            markings, moves = marking_by_marking(net, marking)
            self.assertEqual(graph.markings, tuple(markings))
            self.assertEqual(graph.moves, tuple(map(tuple, moves)))
            self.assertEqual(explore(net, list(marking), len(markings)).markings, graph.markings)
            if len(markings) > 1:
                with self.assertRaises(TooMany):
                    explore(net, marking, len(markings) - 1)

    def test_equal_transitions(self):
        graph = explore(plain_net(2, [((1, 0), (0, 1))] * 2), (1, 0), 2)
        self.assertEqual(graph.moves, ((1, 1), (-1, -1)))
        self.assertEqual(route(graph, 0, 1), [0])


class ListsTest(unittest.TestCase):
    def test_two_ends(self):
        net = plain_net(3, [((1, 0, 0), (0, 1, 0)), ((1, 0, 0), (0, 0, 1)), ((0, 0, 1), (0, 0, 1))])
        graph = explore(net, (1, 0, 0), 9)
        self.assertEqual((stuck(graph), homes(graph), live(graph), repeatable(graph)), ([1], [], [], [2]))

    def test_live_in_all_ends(self):
        net = plain_net(3, [((1, 0, 0), (0, 1, 0)), ((1, 0, 0), (0, 0, 1)), ((0, 0, 0), (0, 0, 0))])
        graph = explore(net, (1, 0, 0), 9)
        self.assertEqual((stuck(graph), homes(graph), live(graph), repeatable(graph)), ([], [], [2], [2]))

    def test_repeatable_in_a_component_that_is_left(self):
        net = plain_net(2, [((1, 0), (1, 0)), ((1, 0), (0, 1))])
        graph = explore(net, (1, 0), 9)
        self.assertEqual((live(graph), homes(graph), repeatable(graph)), ([], [1], [0]))

    def test_what_following_the_graph_finds(self):
        filled = {"live": 0, "homes": 0, "stuck": 0, "repeatable": 0}
        for net, _, graph in bounded_graphs(400):
            found = reached_from(graph)
            numbers = range(len(graph.moves))
            indexes = range(len(net.transitions))
            self.assertEqual(stuck(graph), [n for n in numbers if all(target == -1 for target in graph.moves[n])])
            enabling = [{n for n in numbers if graph.moves[n][index] != -1} for index in indexes]
            self.assertEqual(live(graph), [index for index in indexes if all(found[n] & enabling[index] for n in numbers)])
            self.assertEqual(homes(graph), [n for n in numbers if all(n in found[other] for other in numbers)])
            again = [
                index for index in indexes
                if any(graph.moves[n][index] != -1 and n in found[graph.moves[n][index]] for n in numbers)
            ]
            self.assertEqual(repeatable(graph), again)
            for name, values in (
                ("live", live(graph)), ("homes", homes(graph)), ("stuck", stuck(graph)), ("repeatable", again)
            ):
                filled[name] += len(values) > 0
        self.assertGreater(min(filled.values()), 20)

    def test_long_graph(self):
        net = plain_net(2, [((1, 0), (0, 1)), ((0, 1), (0, 0))])
        graph = explore(net, (150, 0), 20000)
        self.assertEqual(len(graph.markings), 151 * 152 // 2)
        self.assertEqual(graph.markings[homes(graph)[0]], (0, 0))
        self.assertEqual((stuck(graph), live(graph), repeatable(graph)), (homes(graph), [], []))
        self.assertEqual(len(route(graph, 0, homes(graph)[0])), 300)

    def test_lists_are_new(self):
        graph = explore(NET, (2, 0), 10)
        for function in (stuck, live, homes, repeatable):
            first = function(graph)
            expected = list(first)
            first.append(9)
            self.assertEqual(function(graph), expected)


class RouteTest(unittest.TestCase):
    def test_to_itself(self):
        graph = explore(NET, (2, 0), 10)
        for number in range(5):
            self.assertEqual(route(graph, number, number), [])

    def test_none(self):
        graph = explore(NET, (2, 0), 10)
        self.assertIsNone(route(graph, 3, 0))
        self.assertEqual(route(graph, 3, 4), [1])

    def test_first_of_several(self):
        net = plain_net(3, [((0, 1, 0), (0, 0, 1)), ((1, 0, 0), (0, 1, 0)), ((1, 0, 0), (0, 0, 1))])
        graph = explore(net, (2, 0, 0), 20)
        self.assertEqual(route(graph, 0, graph.markings.index((0, 0, 2))), [2, 2])
        self.assertEqual(route(graph, 0, graph.markings.index((0, 1, 1))), [1, 2])

    def test_no_shorter_and_no_smaller_run(self):
        lengths = []
        for net, _, graph in bounded_graphs(200, 3, 2):
            for first, second in product(range(min(6, len(graph.markings))), repeat=2):
                run = route(graph, first, second)
                expected = None
                for length in range(8):
                    for other in product(range(len(net.transitions)), repeat=length):
                        if expected is None and self.target(graph, first, other) == second:
                            expected = list(other)
                if expected is None:
                    self.assertTrue(run is None or len(run) >= 8)
                else:
                    self.assertEqual(run, expected)
                if run is not None:
                    self.assertEqual(run_from(net, graph.markings[first], run), graph.markings[second])
                    lengths.append(len(run))
        self.assertGreater(max(lengths), 3)

    def target(self, graph, number, run):
        for index in run:
            number = -1 if number == -1 else graph.moves[number][index]
        return number

    def test_lists_are_new(self):
        graph = explore(NET, (2, 0), 10)
        route(graph, 0, 1).append(5)
        self.assertEqual(route(graph, 0, 1), [0])


if __name__ == "__main__":
    unittest.main()
