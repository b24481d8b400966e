import unittest

from covernets.backward import cover_basis, step_back, way
from covernets.closed import basis_of, closed_within, in_closed
from covernets.nets import Net
from covernets.runs import run_from
from helpers import HUGE, box, plain_net, reachable, small_net, successors


class StepBackTest(unittest.TestCase):
    def test_edges(self):
        net = plain_net(2, [((2, 0), (0, 1))])
        self.assertEqual(step_back(net, []), [])
        self.assertEqual(step_back(Net(2, []), [(1, 1)]), [])
        self.assertEqual(step_back(net, [(0, 0), (0, 0), (3, 3)]), [(2, 0)])

    def test_several_places_to_one(self):
        net = Net(3, [((1, 0, 0), (0, 0, 1), (2, 2, -1))])
        self.assertEqual(step_back(net, [(0, 0, 3)]), [(1, 2, 0), (2, 1, 0), (3, 0, 0)])
        self.assertEqual(step_back(net, [(1, 0, 0), (0, 1, 2)]), [])

    def test_losses(self):
        net = Net(2, [((0, 0), (2, 0), (-1, 0))])
        self.assertEqual(step_back(net, [(3, 0)]), [(0, 1)])
        self.assertEqual(step_back(net, [(2, 0)]), [(0, 0)])
        self.assertEqual(step_back(net, [(2, 1)]), [])

    def test_great_numbers(self):
        net = Net(2, [((1, 3), (0, 1), (1, 0)), ((0, 0), (0, 0), (0, -1))])
        self.assertEqual(step_back(net, [(HUGE, 2 * HUGE)]), [(2 * HUGE, HUGE + 3)])
        self.assertEqual(step_back(net, [(HUGE, 1)]), [(1, HUGE + 3)])

    def test_firing_once_leads_into_the_set(self):
        goals = [[(2, 0, 1)], [(0, 3, 0), (1, 1, 1)], [(1, 0, 0)]]
        for seed in range(80):
            net = small_net(seed, 3, 3, 2, seed % 4)
            members = goals[seed % 3]
            before = step_back(net, members)
            self.assertEqual(before, basis_of(before))
            for marking in box(3, 4):
                expected = any(in_closed(members, result) for result in successors(net, marking))
                self.assertIs(in_closed(before, marking), expected)


class CoverBasisTest(unittest.TestCase):
    def test_example(self):
        net = Net(2, [((2, 0), (0, 1), (0, 1))])
        self.assertEqual(cover_basis(net, [(0, 2)]), [(0, 2), (2, 1), (4, 0)])

    def test_edges(self):
        net = Net(2, [((2, 0), (0, 1), (0, 1))])
        self.assertEqual(cover_basis(net, []), [])
        self.assertEqual(cover_basis(net, [(3, 3), (0, 0), (0, 0)]), [(0, 0)])
        self.assertEqual(cover_basis(Net(1, []), [(4,), (3,)]), [(3,)])

    def test_great_numbers(self):
        net = Net(2, [((2, 0), (0, 1), (0, 1))])
        self.assertEqual(
            cover_basis(net, [(HUGE, 2)]), [(HUGE, 2), (HUGE + 2, 1), (HUGE + 4, 0)]
        )
        self.assertEqual(cover_basis(net, [(HUGE, 0), (2 * HUGE, 0)]), [(HUGE, 0)])

    def test_great_numbers_that_grow(self):
        cases = [
            (1, [((0,), (1,), (0,))], [(HUGE,)], [(0,)]),
            (2, [((0, 1), (1, 1), (0, 1))], [(HUGE, 0)], [(0, 1), (HUGE, 0)]),
            (2, [((0, 1), (1, 0), (0, 1)), ((0, 0), (0, 1), (0, 1))], [(HUGE, 3)], [(0, 0)]),
            (2, [((0, 0), (1, 0), (1, 0))], [(HUGE, HUGE)], [(0, 0)]),
            (3, [((0, 1, 0), (1, 1, 0), (0, 1, -1))], [(HUGE, 0, 0)], [(0, 1, 0), (HUGE, 0, 0)]),
            (2, [((0, 0), (0, 0), (0, 0)), ((0, 0), (1, 0), (0, 1))], [(HUGE, 0)], [(0, 0)]),
        ]
        for places, transitions, goals, expected in cases:
            self.assertEqual(cover_basis(Net(places, transitions), goals), expected)

    def test_transfer_and_reset(self):
        # The transfer from place 0 to place 1 takes a token; the reset of place 1 gives one to place 0.
        net = Net(2, [((0, 0), (1, 0), (0, -1)), ((1, 0), (0, 0), (1, 1))])
        self.assertEqual(cover_basis(net, [(0, 2)]), [(0, 0)])
        self.assertEqual(cover_basis(net, [(2, 1)]), [(2, 1)])

    def test_what_the_points_say_of_many_nets(self):
        for seed in range(150):
            net = small_net(seed, 3, 3, 2, seed % 4)
            goals = [(seed % 3, 2, 0), (0, 1, seed % 5)]
            basis = cover_basis(net, goals)
            self.assertEqual(basis, basis_of(basis))
            self.assertTrue(closed_within(goals, basis))
            self.assertTrue(closed_within(step_back(net, basis), basis))
            for member in basis:
                self.assertTrue(in_closed(goals, run_from(net, member, way(net, goals, member))))

    def test_same_as_trying_all_runs_where_they_are_few(self):
        tried = 0
        for seed in range(200):
            net = small_net(seed, 2, 2, 2, seed % 4)
            goals = [(2, seed % 3)]
            basis = cover_basis(net, goals)
            for marking in box(2, 2):
                markings = reachable(net, marking, 60)
                if markings is not None:
                    tried += 1
                    expected = any(in_closed(goals, other) for other in markings)
                    self.assertIs(in_closed(basis, marking), expected)
        self.assertGreater(tried, 500)


class WayTest(unittest.TestCase):
    def test_goal_that_is_covered_at_once(self):
        net = Net(2, [((2, 0), (0, 1), (0, 1))])
        self.assertEqual(way(net, [(1, 1)], (HUGE, 5)), [])

    def test_no_way(self):
        net = Net(2, [((2, 0), (0, 1), (0, 1))])
        self.assertIsNone(way(net, [(0, 2)], (3, 0)))
        self.assertIsNone(way(net, [], (3, 0)))
        self.assertIsNone(way(net, [(HUGE, 2)], (HUGE + 3, 0)))

    def test_ways_lead_to_the_goals(self):
        for seed in range(150):
            net = small_net(seed, 3, 3, 2, seed % 4)
            goals = [(seed % 3, 2, 0), (0, 1, seed % 5)]
            basis = cover_basis(net, goals)
            for marking in box(3, 2):
                run = way(net, goals, marking)
                if run is None:
                    self.assertFalse(in_closed(basis, marking))
                else:
                    self.assertIsInstance(run, list)
                    self.assertTrue(in_closed(goals, run_from(net, marking, run)))

    def test_long_ways(self):
        net = plain_net(2, [((1, 0), (1, 1))])
        self.assertEqual(way(net, [(0, 5000)], (1, 0)), [0] * 5000)

    def test_long_ways_of_nets_that_move(self):
        net = Net(3, [((0, 1, 0), (2, 1, 0), (0, 1, -1))])
        self.assertEqual(way(net, [(501, 1, 0)], (0, 1, 7)), [0] * 251)
        self.assertEqual(way(net, [(501, 1, 0)], (200, 1, 7)), [0] * 151)
        self.assertIsNone(way(net, [(501, 1, 1)], (200, 1, 7)))
        swap = Net(2, [((0, 0), (1, 0), (1, 0))])
        run = way(swap, [(300, 300)], (7, 0))
        self.assertTrue(in_closed([(300, 300)], run_from(swap, (7, 0), run)))

    def test_great_numbers(self):
        net = plain_net(2, [((0, 1), (1, 1)), ((0, 0), (0, 1))])
        run = way(net, [(HUGE, 0)], (HUGE - 3, 0))
        self.assertTrue(in_closed([(HUGE, 0)], run_from(net, (HUGE - 3, 0), run)))
        # The goal that is near is not lost among those that are far away.
        sources = plain_net(2, [((0, 0), (1, 0)), ((0, 0), (0, 1))])
        self.assertEqual(way(sources, [(HUGE, 0), (0, 3)], (0, 1)), [1, 1])

    def test_arguments_stay_and_results_are_equal_and_new(self):
        net = Net(2, [((2, 0), (0, 1), (0, 1))])
        goals = [(0, 2), (0, 3)]
        for function in (step_back, cover_basis):
            first, second = function(net, goals), function(net, goals)
            self.assertEqual(first, second)
            self.assertIsNot(first, second)
        first, second = way(net, goals, (4, 0)), way(net, goals, (4, 0))
        self.assertEqual(first, second)
        self.assertIsNot(first, second)
        self.assertEqual(goals, [(0, 2), (0, 3)])


if __name__ == "__main__":
    unittest.main()
