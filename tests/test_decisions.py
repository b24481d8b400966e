import unittest

from covernets.backward import cover_basis, step_back
from covernets.closed import Basis, closed_within, in_closed
from covernets.decisions import (
    Decision, are_many_before, decide, judge_barrier, judge_run, outside_leads_outside, step_back_within,
)
from covernets.forward import limit_set
from covernets.limits import within
from covernets.nets import Net
from helpers import HUGE, plain_net, small_net

NET = Net(2, [((2, 0), (0, 1), (0, 1))])


def start_at(start, count):
    base, free = start
    return tuple(number + count * (place == free) for place, number in enumerate(base))


class DecisionTest(unittest.TestCase):
    def test_attributes_are_copies(self):
        run, barrier = [0, 1], [[1, 0], (0, 1)]
        decision = Decision(True, 3, run, barrier)
        run.append(5)
        barrier[0][0] = 9
        barrier.append((7, 7))
        self.assertEqual((decision.reachable, decision.count), (True, 3))
        self.assertEqual(decision.run, (0, 1))
        self.assertEqual(decision.barrier, ((1, 0), (0, 1)))
        self.assertIsNone(Decision(False, None, None, []).run)

    def test_example(self):
        decision = decide(NET, ((1, 0), 0), [(0, 2)])
        self.assertIs(decision.reachable, True)
        self.assertEqual((decision.count, decision.run), (3, (0, 0)))
        self.assertEqual(decision.barrier, ((0, 2), (2, 1), (4, 0)))

    def test_no_goals(self):
        decision = decide(NET, ((1, 0), 0), [])
        self.assertIs(decision.reachable, False)
        self.assertEqual((decision.count, decision.run, decision.barrier), (None, None, ()))

    def test_goal_that_is_covered_at_once(self):
        for free in (-1, 0, 1):
            decision = decide(NET, ((5, 2), free), [(1, 2), (9, 9)])
            self.assertEqual((decision.reachable, decision.count, decision.run), (True, 0, ()))

    def test_free_is_no_place(self):
        self.assertIs(decide(NET, ((3, 0), -1), [(0, 2)]).reachable, False)
        self.assertEqual(decide(NET, ((4, 0), -1), [(0, 2)]).count, 0)

    def test_free_place_that_does_not_help(self):
        decision = decide(NET, ((3, 0), 1), [(5, 0)])
        self.assertEqual((decision.reachable, decision.count, decision.run), (False, None, None))

    def test_great_numbers(self):
        decision = decide(NET, ((1, 0), 0), [(HUGE, 2)])
        self.assertEqual((decision.count, decision.run), (HUGE + 3, (0, 0)))
        decision = decide(NET, ((HUGE, 1), 0), [(HUGE + 1, 2)])
        self.assertEqual((decision.count, decision.run), (3, (0,)))

    def test_what_the_points_say_of_many_nets(self):
        reached = 0
        for seed in range(250):
            net = small_net(seed, 3, 3, 2, seed % 4)
            start = ((seed % 2, 0, seed % 3), seed % 4 - 1)
            goals = [(2, seed % 3, 0), (0, 1, 3)]
            decision = decide(net, start, goals)
            barrier = list(decision.barrier)
            self.assertEqual(barrier, cover_basis(net, goals))
            self.assertIs(judge_barrier(net, start, goals, barrier), not decision.reachable)
            if decision.reachable:
                reached += 1
                self.assertIsInstance(decision.run, tuple)
                self.assertIs(judge_run(net, start, goals, decision.count, decision.run), True)
                for count in range(decision.count):
                    self.assertFalse(in_closed(barrier, start_at(start, count)))
            else:
                self.assertIsNone(decision.count)
                self.assertIsNone(decision.run)
        self.assertGreater(reached, 50)
        self.assertLess(reached, 200)

    def test_limit_sets_agree(self):
        for seed in range(150):
            net = small_net(seed, 3, 3, 2, 0)
            base, free, goal = (seed % 2, 1, seed % 3), seed % 4 - 1, (2, seed % 3, 1)
            limit = tuple(-1 if place == free else number for place, number in enumerate(base))
            covered = any(within(goal, other) for other in limit_set(net, limit))
            self.assertIs(decide(net, (base, free), [goal]).reachable, covered)

    def test_arguments_stay_and_results_are_equal(self):
        start, goals = ((1, 0), 0), [(0, 2), (0, 3)]
        first, second = decide(NET, start, goals), decide(NET, start, goals)
        self.assertEqual(
            (first.count, first.run, first.barrier), (second.count, second.run, second.barrier)
        )
        self.assertEqual((start, goals), (((1, 0), 0), [(0, 2), (0, 3)]))


class JudgeBarrierTest(unittest.TestCase):
    def test_taken(self):
        self.assertIs(judge_barrier(NET, ((3, 0), -1), [(0, 2)], [(0, 2), (2, 1), (4, 0)]), True)
        self.assertIs(judge_barrier(NET, ((3, 0), -1), [(0, 2)], ((4, 0), (0, 2), (2, 1), (0, 2), (9, 9))), True)
        self.assertIs(judge_barrier(NET, ((1, 0), -1), [(0, 2)], [(2, 0), (0, 1)]), True)

    def test_goal_is_missing(self):
        self.assertIs(judge_barrier(NET, ((3, 0), -1), [(0, 2), (3, 1)], [(0, 2), (2, 2), (4, 1), (6, 0)]), False)

    def test_step_back_is_missing(self):
        self.assertIs(judge_barrier(NET, ((3, 0), -1), [(0, 2)], [(0, 2), (2, 1)]), False)
        self.assertIs(judge_barrier(NET, ((3, 0), -1), [(0, 2)], [(0, 2), (2, 1), (5, 0)]), False)

    def test_start_marking_is_in_the_set(self):
        barrier = [(0, 2), (2, 1), (4, 0)]
        self.assertIs(judge_barrier(NET, ((4, 0), -1), [(0, 2)], barrier), False)
        self.assertIs(judge_barrier(NET, ((3, 0), 0), [(0, 2)], barrier), False)
        self.assertIs(judge_barrier(NET, ((3, 0), 1), [(0, 2)], barrier), False)
        self.assertIs(judge_barrier(NET, ((3, 0), 1), [(HUGE, 0)], [(HUGE, 0)]), True)
        self.assertIs(judge_barrier(NET, ((3, 0), 0), [(HUGE, 0)], [(HUGE, 0)]), False)

    def test_great_numbers_from_several_places(self):
        # All tokens go to place 0, so what is just outside of the set can be spread in very many ways.
        net = Net(2, [((0, 0), (0, 0), (0, 0))])
        goals, nothing = [(HUGE, 0)], ((0, 0), -1)
        self.assertIs(judge_barrier(net, nothing, goals, [(HUGE, 0)]), False)
        self.assertIs(judge_barrier(net, nothing, goals, [(HUGE, 0), (0, HUGE)]), False)
        self.assertIs(judge_barrier(net, nothing, goals, [(HUGE, 0), (0, 1)]), True)
        self.assertIs(judge_barrier(net, ((0, 0), 1), goals, [(HUGE, 0), (0, 1)]), False)
        losing = Net(3, [((0, 2, 0), (0, 0, 3), (2, 2, -1))])
        self.assertIs(judge_barrier(losing, ((0, 0, 0), 1), [(0, 0, HUGE)], [(0, 0, HUGE), (1, 0, 0)]), False)
        self.assertIs(judge_barrier(losing, ((0, 1, 5), 2), [(1, 0, 3)], [(1, 0, 0), (0, 2, 0)]), True)
        self.assertIs(judge_barrier(losing, ((0, 0, 5), -1), [(0, 0, HUGE)], [(0, 0, HUGE), (0, 2, 0)]), True)

    def test_both_ways_to_judge_agree(self):
        judged = []
        for seed in range(150):
            net = small_net(seed, 3, 2, 2, 4)
            after = [(1, 0, 2), (0, 2, 0)]
            before = [(2, 0, 0), (0, 1, 0), (0, 0, 3), (1, 0, 1)]
            for barrier in (after, cover_basis(net, [(1, 1, 1)]), [(3, 0, 0), (0, 0, 1), (0, 4, 0)], before):
                expected = closed_within(step_back(net, barrier), barrier)
                self.assertIs(step_back_within(net.transitions, Basis(barrier), barrier), expected)
                self.assertIs(outside_leads_outside(net.transitions, barrier, barrier), expected)
            expected = closed_within(step_back(net, after), before)
            self.assertIs(step_back_within(net.transitions, Basis(before), after), expected)
            self.assertIs(outside_leads_outside(net.transitions, before, after), expected)
            judged.append(expected)
        self.assertGreater(judged.count(True), 20)
        self.assertGreater(judged.count(False), 20)

    def test_many_before(self):
        steps = [((0, 0), (0, 0), (0, 0))]
        self.assertIs(are_many_before(steps, [(99999, 0)]), False)
        self.assertIs(are_many_before(steps, [(100000, 0)]), True)

    def test_empty_lists(self):
        self.assertIs(judge_barrier(NET, ((3, 0), 0), [], []), True)
        self.assertIs(judge_barrier(NET, ((3, 0), 0), [(0, 2)], []), False)
        self.assertIs(judge_barrier(NET, ((3, 0), 0), [], [(0, 0)]), False)

    def test_arguments_stay_as_they_were(self):
        goals, barrier = [(0, 2)], [(4, 0), (2, 1), (0, 2)]
        judge_barrier(NET, ((3, 0), -1), goals, barrier)
        self.assertEqual((goals, barrier), ([(0, 2)], [(4, 0), (2, 1), (0, 2)]))


class JudgeRunTest(unittest.TestCase):
    def test_counts(self):
        start = ((1, 0), 0)
        self.assertIs(judge_run(NET, start, [(0, 2)], 3, [0, 0]), True)
        self.assertIs(judge_run(NET, start, [(0, 2)], HUGE, (0, 0)), True)
        self.assertIs(judge_run(NET, start, [(0, 2)], 2, [0, 0]), False)
        self.assertIs(judge_run(NET, start, [(0, 0)], -1, []), False)
        self.assertIs(judge_run(NET, start, [(0, 0)], -HUGE, []), False)

    def test_free_is_no_place(self):
        start = ((4, 0), -1)
        self.assertIs(judge_run(NET, start, [(0, 2)], 0, [0, 0]), True)
        self.assertIs(judge_run(NET, start, [(0, 2)], 1, [0, 0]), False)
        self.assertIs(judge_run(NET, start, [(0, 2)], -1, [0, 0]), False)

    def test_runs_that_do_not_lead_to_the_goals(self):
        start = ((4, 0), 0)
        self.assertIs(judge_run(NET, start, [(0, 2)], 0, [0]), False)
        self.assertIs(judge_run(NET, start, [(0, 2)], 0, [0, 0, 0]), False)
        self.assertIs(judge_run(NET, start, [], 0, [0]), False)

    def test_empty_run(self):
        self.assertIs(judge_run(NET, ((4, 0), 0), [(4, 0)], 0, ()), True)
        self.assertIs(judge_run(NET, ((4, 0), 0), [(5, 0)], 0, []), False)


if __name__ == "__main__":
    unittest.main()
