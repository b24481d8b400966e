import unittest

from covernets.decisions import decide, judge_run
from covernets.nets import Net
from covernets.reduction import Reduced, original_run, reduce_net
from helpers import HUGE, plain_net, small_net


def parts(reduced):
    return (
        reduced.net.places, reduced.net.transitions, reduced.start, reduced.goals, reduced.places, reduced.transitions
    )


class ReducedTest(unittest.TestCase):
    def test_copies(self):
        net = Net(2, [])
        base, goals, places, transitions = [1, 2], [[0, 1], (3, 3)], [4, 7], [2]
        reduced = Reduced(net, [base, 1], goals, places, transitions)
        base[0] = 9
        goals[0][0] = 9
        goals.append((1, 1))
        places.append(8)
        transitions[0] = 5
        self.assertEqual(reduced.start, ((1, 2), 1))
        self.assertEqual(reduced.goals, ((0, 1), (3, 3)))
        self.assertEqual((reduced.places, reduced.transitions), ((4, 7), (2,)))
        self.assertIs(reduced.net, net)


class StepsTest(unittest.TestCase):
    def test_transitions_that_are_not_possible(self):
        # Place 2 is never marked, so that transition 1 cannot be fired; transition 2 takes what 0 gives.
        net = plain_net(3, [((1, 0, 0), (0, 1, 0)), ((0, 0, 1), (5, 5, 0)), ((0, 2, 0), (0, 0, 0))])
        reduced = reduce_net(net, ((1, 0, 0), -1), [(0, 3, 0)])
        self.assertEqual(reduced.transitions, (0,))
        self.assertEqual(reduced.places, (0, 1))
        self.assertEqual(reduced.net.transitions, (((1, 0), (0, 1), (0, 1)),))
        self.assertEqual((reduced.start, reduced.goals), (((1, 0), -1), ((0, 3),)))
        self.assertEqual(original_run(reduced, [0, 0]), [0, 0])

    def test_place_free_can_be_marked(self):
        net = plain_net(2, [((1, 0), (0, 1))])
        self.assertEqual(reduce_net(net, ((0, 0), 0), [(0, 1)]).transitions, (0,))
        self.assertEqual(reduce_net(net, ((0, 0), -1), [(0, 1)]).transitions, ())
        self.assertEqual(reduce_net(net, ((0, 0), 1), [(0, 1)]).transitions, ())

    def test_places_that_moves_mark(self):
        # Transition 0 moves tokens from place 0 to place 1, from where transition 1 takes.
        net = Net(3, [((0, 0, 0), (0, 0, 0), (1, 1, 2)), ((0, 1, 0), (0, 0, 1), (0, 1, 2))])
        self.assertEqual(reduce_net(net, ((3, 0, 0), -1), [(0, 0, 2)]).transitions, (0, 1))
        self.assertEqual(reduce_net(net, ((0, 0, 3), -1), [(0, 0, 5)]).transitions, ())
        self.assertEqual(reduce_net(net, ((0, 0, 3), 0), [(0, 0, 5)]).places, (0, 1, 2))

    def test_transitions_mark_places_for_those_before_them(self):
        net = plain_net(4, [
            ((0, 0, 1, 0), (0, 0, 0, 1)), ((0, 1, 0, 0), (0, 0, 1, 0)), ((1, 0, 0, 0), (0, 1, 0, 0)),
        ])
        self.assertEqual(reduce_net(net, ((1, 0, 0, 0), -1), [(0, 0, 0, 1)]).transitions, (0, 1, 2))

    def test_relevant_places(self):
        # Only place 2 matters, to which transition 1 gives what it takes from place 1.
        net = plain_net(4, [((0, 0, 0, 0), (1, 0, 0, 0)), ((0, 1, 0, 0), (0, 0, 1, 3))])
        reduced = reduce_net(net, ((1, 2, 3, 4), 0), [(0, 0, 4, 0), (0, 0, 9, 0)])
        self.assertEqual((reduced.places, reduced.transitions), ((1, 2), (1,)))
        self.assertEqual(reduced.net.transitions, (((1, 0), (0, 1), (0, 1)),))
        self.assertEqual((reduced.start, reduced.goals), (((2, 3), -1), ((0, 4), (0, 9))))
        self.assertEqual(original_run(reduced, (0, 0, 0)), [1, 1, 1])

    def test_places_that_move_to_relevant_ones(self):
        net = Net(3, [((0, 0, 0), (0, 0, 0), (1, 1, 0))])
        reduced = reduce_net(net, ((1, 0, 2), 2), [(0, 3, 0)])
        self.assertEqual((reduced.places, reduced.transitions), ((0, 1, 2), (0,)))
        reduced = reduce_net(net, ((1, 0, 2), 2), [(0, 0, 3)])
        self.assertEqual((reduced.places, reduced.transitions), ((2,), ()))
        self.assertEqual(reduced.start, ((2,), 0))

    def test_transition_that_only_loses_relevant_tokens(self):
        net = Net(2, [((0, 0), (0, 1), (-1, 1))])
        reduced = reduce_net(net, ((2, 0), 1), [(3, 0)])
        self.assertEqual((reduced.places, reduced.transitions, reduced.start), ((0,), (), ((2,), -1)))

    def test_circles_beside_the_relevant_places(self):
        # The first two transitions give each other what they take, but nothing to place 2.
        for first, second in (((0, 1, 2), (0, 1, 2)), ((-1, 1, 2), (0, -1, 2)), ((1, 1, 2), (0, 0, 2)), ((0, 0, -1), (1, 1, 2))):
            net = Net(3, [
                ((1, 0, 0), (0, 1, 0), first), ((0, 1, 0), (1, 0, 0), second), ((0, 0, 1), (0, 0, 2), (0, 1, 2)),
            ])
            reduced = reduce_net(net, ((1, 0, 1), -1), [(0, 0, 3)])
            self.assertEqual((reduced.places, reduced.transitions), ((2,), (2,)))

    def test_lost_tokens_mark_no_place(self):
        net = Net(2, [((0, 0), (0, 0), (-1, 1)), ((0, 1), (3, 0), (0, 1))])
        self.assertEqual(reduce_net(net, ((2, 0), -1), [(3, 0)]).transitions, ())

    def test_place_free_is_numbered_anew(self):
        net = plain_net(3, [((0, 0, 1), (0, 1, 0))])
        reduced = reduce_net(net, ((7, 0, 1), 2), [(0, 2, 0)])
        self.assertEqual((reduced.places, reduced.start), ((1, 2), ((0, 1), 1)))
        self.assertEqual(reduced.net.transitions, (((0, 1), (1, 0), (0, 1)),))

    def test_no_place_is_relevant(self):
        net = plain_net(2, [((1, 0), (0, 1))])
        for goals in ([], [(0, 0)], [(0, 0), (0, 0)]):
            reduced = reduce_net(net, ((4, 5), 0), goals)
            self.assertEqual((reduced.places, reduced.transitions), ((0,), ()))
            self.assertEqual((reduced.start, reduced.goals), (((4,), 0), ((0,),) * len(goals)))
            self.assertEqual(reduce_net(net, ((4, 5), 1), goals).start, ((4,), -1))

    def test_entries_that_become_minus_one(self):
        # Transition 0 gives to place 1 and moves the tokens of place 1 to place 0, which does not matter.
        net = Net(2, [((0, 0), (0, 1), (1, 0))])
        self.assertEqual(reduce_net(net, ((1, 1), 0), [(0, 2)]).net.transitions, net.transitions)
        net = Net(2, [((0, 2), (0, 3), (0, 0))])
        reduced = reduce_net(net, ((1, 2), 0), [(0, 4)])
        self.assertEqual((reduced.places, reduced.net.transitions), ((1,), (((2,), (3,), (-1,)),)))
        self.assertEqual(reduced.start, ((2,), -1))

    def test_useless_transitions(self):
        net = Net(2, [
            ((1, 1), (1, 1), (0, 1)), ((1, 1), (0, 1), (-1, 1)), ((1, 1), (1, 2), (-1, -1)), ((2, 0), (1, 0), (1, 1)),
        ])
        self.assertEqual(reduce_net(net, ((5, 5), -1), [(9, 9)]).transitions, (2, 3))

    def test_dominated_transitions(self):
        net = plain_net(2, [((2, 0), (0, 1)), ((1, 0), (0, 1)), ((1, 0), (0, 2)), ((1, 1), (0, 3)), ((0, 0), (3, 0))])
        # The first two take no less and give no more than the third one; the fourth one gives more.
        self.assertEqual(reduce_net(net, ((3, 1), -1), [(5, 5)]).transitions, (2, 3, 4))
        moving = Net(2, [((1, 0), (0, 2), (0, 1)), ((1, 0), (0, 2), (0, -1)), ((1, 0), (0, 2), (1, 1))])
        self.assertEqual(reduce_net(moving, ((3, 1), -1), [(5, 5)]).transitions, (0, 1, 2))

    def test_equal_transitions(self):
        net = plain_net(1, [((0,), (1,)), ((0,), (1,)), ((0,), (1,))])
        self.assertEqual(reduce_net(net, ((0,), -1), [(1,)]).transitions, (0,))
        net = plain_net(1, [((1,), (2,)), ((0,), (1,)), ((1,), (2,)), ((0,), (1,))])
        self.assertEqual(reduce_net(net, ((1,), -1), [(3,)]).transitions, (0, 1))

    def test_steps_again_and_again(self):
        # Transition 1 is useless, without it place 0 is not relevant, without it transition 0 is not.
        net = plain_net(3, [((0, 0, 0), (1, 0, 0)), ((1, 2, 0), (0, 1, 0)), ((0, 0, 1), (0, 2, 0))])
        reduced = reduce_net(net, ((0, 0, 1), -1), [(0, 4, 0)])
        self.assertEqual((reduced.places, reduced.transitions), ((1, 2), (2,)))
        # Once place 0 is not kept, both transitions are equal.
        net = Net(3, [((0, 1, 0), (0, 1, 1), (0, 1, 2)), ((0, 1, 0), (1, 1, 1), (-1, 1, 2))])
        reduced = reduce_net(net, ((0, 1, 0), -1), [(0, 0, 3)])
        self.assertEqual((reduced.places, reduced.transitions), ((1, 2), (0,)))

    def test_great_numbers(self):
        net = plain_net(2, [((1, 0), (0, 1))])
        reduced = reduce_net(net, ((HUGE, 0), 1), [(0, HUGE)])
        self.assertEqual((reduced.start, reduced.goals), (((HUGE, 0), 1), ((0, HUGE),)))


class ManyNetsTest(unittest.TestCase):
    def test_same_answer_and_count(self):
        smaller = reached = 0
        for seed in range(500):
            net = small_net(seed, 2 + seed % 3, 1 + seed % 5, 2, seed % 4)
            size = net.places
            start = (tuple((seed + place) % 2 for place in range(size)), seed % (size + 1) - 1)
            goals = [tuple((seed * (place + 1)) % 3 for place in range(size)), tuple([seed % 4] + [0] * (size - 1))]
            goals = goals[:seed % 3]
            reduced = reduce_net(net, start, goals)
            self.assertEqual(len(reduced.goals), len(goals))
            first = decide(net, start, goals)
            second = decide(reduced.net, reduced.start, list(reduced.goals))
            self.assertEqual((first.reachable, first.count), (second.reachable, second.count), seed)
            if second.reachable:
                run = original_run(reduced, second.run)
                self.assertIs(judge_run(net, start, goals, second.count, run), True)
                reached += 1
            smaller += 0 < len(reduced.transitions) < len(net.transitions)
            again = reduce_net(reduced.net, reduced.start, reduced.goals)
            self.assertEqual(parts(again)[:4], parts(reduced)[:4])
            self.assertEqual(again.places, tuple(range(reduced.net.places)))
            self.assertEqual(again.transitions, tuple(range(len(reduced.net.transitions))))
            self.assertEqual(parts(reduce_net(net, start, goals)), parts(reduced))
        self.assertGreater(reached, 50)
        self.assertGreater(smaller, 50)

    def test_original_run(self):
        reduced = Reduced(Net(1, []), ((0,), -1), [], [0], [3, 5, 6])
        self.assertEqual(original_run(reduced, (2, 0, 1, 1)), [6, 3, 5, 5])
        run = []
        original_run(reduced, run).append(1)
        self.assertEqual((run, original_run(reduced, run)), ([], []))

    def test_arguments_stay_as_they_were(self):
        goals, start = [(0, 1), (0, 1)], ((1, 0), 0)
        reduced = reduce_net(plain_net(2, [((1, 0), (0, 1))]), start, goals)
        self.assertEqual((goals, start), ([(0, 1), (0, 1)], ((1, 0), 0)))
        goals.append((7, 7))
        self.assertEqual(reduced.goals, ((0, 1), (0, 1)))
        self.assertIsInstance(reduced.net, Net)


if __name__ == "__main__":
    unittest.main()
