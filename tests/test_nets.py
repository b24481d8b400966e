import unittest

from covernets.closed import covers
from covernets.errors import InvalidNet, NotEnabled
from covernets.nets import Net, enabled, fire, is_plain
from helpers import HUGE, box, plain_net, small_net, staying


class NetTest(unittest.TestCase):
    def test_attributes_are_tuples(self):
        net = Net(2, [[[1, 0], [0, 2], [0, -1]], ((0, 9), (9, 0), (1, 1))])
        self.assertEqual(net.places, 2)
        self.assertEqual(net.transitions, (((1, 0), (0, 2), (0, -1)), ((0, 9), (9, 0), (1, 1))))
        for transition in net.transitions:
            self.assertIsInstance(transition, tuple)
            for row in transition:
                self.assertIsInstance(row, tuple)

    def test_lists_are_copied(self):
        takes, transitions = [1, 0], []
        transition = [takes, [0, 2], [0, 1]]
        transitions.append(transition)
        net = Net(2, transitions)
        takes[0] = 5
        transition[1] = [7, 7]
        transitions.append(transition)
        self.assertEqual(net.transitions, (((1, 0), (0, 2), (0, 1)),))
        self.assertEqual(transitions, [[[5, 0], [7, 7], [0, 1]]] * 2)

    def test_greatest_and_smallest_nets(self):
        row = (9,) * 12
        self.assertEqual(len(Net(12, [(row, row, staying(12))] * 24).transitions), 24)
        self.assertEqual(Net(1, []).transitions, ())

    def test_numbers_of_places_that_are_refused(self):
        for places in (0, 13, -1, HUGE, -HUGE):
            with self.assertRaises(InvalidNet):
                Net(places, [])

    def test_too_many_transitions(self):
        transition = ((0,), (1,), (0,))
        Net(1, [transition] * 24)
        with self.assertRaises(InvalidNet):
            Net(1, [transition] * 25)

    def test_numbers_that_are_refused(self):
        good = [(1, 0), (0, 1), (0, 1)]
        for at, numbers in enumerate([(-1, 10, HUGE), (-1, 10, HUGE), (-2, 2, 12, HUGE, -HUGE)]):
            for number in numbers:
                for place in (0, 1):
                    rows = [list(row) for row in good]
                    rows[at][place] = number
                    with self.assertRaises(InvalidNet):
                        Net(2, [tuple(good), tuple(tuple(row) for row in rows)])

    def test_numbers_that_are_accepted(self):
        Net(2, [((0, 9), (9, 0), (-1, 1))])

    def test_tuples_of_other_lengths(self):
        for wrong in [(), (0,), (0, 1, 1)]:
            for at in range(3):
                rows = [(0, 0), (0, 0), (0, 1)]
                rows[at] = wrong
                with self.assertRaises(InvalidNet):
                    Net(2, [tuple(rows)])

    def test_plain(self):
        self.assertIs(is_plain(Net(2, [])), True)
        self.assertIs(is_plain(Net(2, [((1, 0), (0, 1), (0, 1))])), True)
        self.assertIs(is_plain(Net(2, [((1, 0), (0, 1), (0, 1)), ((1, 0), (0, 1), (1, 0))])), False)
        self.assertIs(is_plain(Net(2, [((0, 0), (0, 0), (0, -1))])), False)
        self.assertIs(is_plain(Net(1, [((0,), (0,), (-1,))])), False)


class FireTest(unittest.TestCase):
    def test_example(self):
        net = Net(3, [((1, 0, 0), (0, 0, 1), (0, 2, 2))])
        self.assertEqual(fire(net, 0, (2, 5, 1)), (1, 0, 7))

    def test_several_places_to_one_and_losses(self):
        net = Net(3, [((1, 1, 1), (0, 2, 0), (1, 1, 1)), ((0, 0, 1), (3, 0, 0), (-1, 0, -1))])
        self.assertEqual(fire(net, 0, (2, 3, 4)), (0, 1 + 2 + 3 + 2, 0))
        self.assertEqual(fire(net, 1, (2, 3, 4)), (3 + 3, 0, 0))

    def test_all_places_move_at_once(self):
        net = Net(3, [((0, 0, 0), (0, 0, 0), (1, 2, 0))])
        self.assertEqual(fire(net, 0, (1, 2, 3)), (3, 1, 2))

    def test_what_is_given_does_not_move(self):
        net = Net(2, [((0, 0), (4, 0), (1, -1))])
        self.assertEqual(fire(net, 0, (5, 6)), (4, 5))

    def test_size_one(self):
        net = Net(1, [((2,), (1,), (0,)), ((2,), (1,), (-1,))])
        self.assertEqual(fire(net, 0, (5,)), (4,))
        self.assertEqual(fire(net, 1, (5,)), (1,))

    def test_great_numbers(self):
        net = Net(2, [((1, 0), (0, 9), (1, 1))])
        self.assertEqual(fire(net, 0, (HUGE, HUGE)), (0, 2 * HUGE + 8))
        self.assertIs(enabled(net, 0, (HUGE, 0)), True)

    def test_not_enabled(self):
        net = Net(2, [((0, 0), (0, 0), (0, 1)), ((2, 1), (0, 0), (0, 1))])
        for marking in [(1, 1), (2, 0), (HUGE, 0), (0, 0)]:
            self.assertIs(enabled(net, 1, marking), False)
            with self.assertRaises(NotEnabled) as caught:
                fire(net, 1, marking)
            self.assertEqual(caught.exception.position, 0)
        self.assertIs(enabled(net, 1, (2, 1)), True)

    def test_more_tokens_lead_to_more(self):
        for seed in range(60):
            net = small_net(seed, 3, 3, 2, 4)
            for index in range(3):
                for marking in box(3, 2):
                    larger = tuple(number + (seed + place) % 3 for place, number in enumerate(marking))
                    if enabled(net, index, marking):
                        self.assertTrue(enabled(net, index, larger))
                        self.assertTrue(covers(fire(net, index, larger), fire(net, index, marking)))

    def test_plain_firing_adds_the_difference(self):
        net = plain_net(2, [((1, 2), (3, 0))])
        for marking in box(2, 4):
            if enabled(net, 0, marking):
                self.assertEqual(fire(net, 0, marking), (marking[0] + 2, marking[1] - 2))


if __name__ == "__main__":
    unittest.main()
