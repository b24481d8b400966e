import unittest
from itertools import chain, combinations

from covernets.errors import NotPlain
from covernets.nets import Net
from covernets.siphons import is_siphon, is_trap, largest_siphon, largest_trap, minimal_siphons
from helpers import plain_net, small_net

# Place 0 gives to place 1, place 1 to place 2, place 2 to place 1.
NET = plain_net(3, [((1, 0, 0), (0, 1, 0)), ((0, 2, 0), (0, 0, 1)), ((0, 0, 1), (0, 3, 0))])
MOVING = Net(2, [((0, 0), (0, 0), (0, -1))])


def parts(places):
    places = sorted(set(places))
    return [list(part) for part in chain.from_iterable(combinations(places, n) for n in range(len(places) + 1))]


def siphon(net, places):
    """What point 27 says, word by word."""
    for takes, gives, _ in net.transitions:
        if any(gives[place] >= 1 for place in places) and not any(takes[place] >= 1 for place in places):
            return False
    return True


def trap(net, places):
    for takes, gives, _ in net.transitions:
        if any(takes[place] >= 1 for place in places) and not any(gives[place] >= 1 for place in places):
            return False
    return True


class SiphonsTest(unittest.TestCase):
    def test_ordinary(self):
        self.assertIs(is_siphon(NET, [0, 1, 2]), True)
        self.assertIs(is_siphon(NET, [0]), True)
        self.assertIs(is_siphon(NET, [1, 2]), False)
        self.assertIs(is_trap(NET, [1, 2]), True)
        self.assertIs(is_trap(NET, [0]), False)
        self.assertIs(is_trap(NET, [0, 1]), False)
        self.assertEqual(largest_siphon(NET, [2, 0]), [0])
        self.assertEqual(largest_trap(NET, [2, 0, 1]), [0, 1, 2])
        self.assertEqual(largest_trap(NET, [2, 0]), [])
        self.assertEqual(minimal_siphons(NET), [[0]])

    def test_empty_set(self):
        for net in (NET, Net(1, []), plain_net(1, [((0,), (1,))])):
            self.assertIs(is_siphon(net, []), True)
            self.assertIs(is_trap(net, []), True)
            self.assertEqual(largest_siphon(net, []), [])
            self.assertEqual(largest_trap(net, []), [])

    def test_places_named_twice(self):
        self.assertIs(is_siphon(NET, [0, 0]), True)
        self.assertIs(is_siphon(NET, [1, 2, 1]), False)
        self.assertIs(is_trap(NET, [2, 1, 2]), True)
        self.assertEqual(largest_siphon(NET, [2, 0, 1, 0, 2]), [0, 1, 2])
        self.assertEqual(largest_trap(NET, [2, 1, 1]), [1, 2])

    def test_no_transitions(self):
        net = Net(3, [])
        self.assertIs(is_siphon(net, [1]), True)
        self.assertIs(is_trap(net, [2, 0]), True)
        self.assertEqual(largest_siphon(net, [2, 1]), [1, 2])
        self.assertEqual(minimal_siphons(net), [[0], [1], [2]])

    def test_transitions_from_and_to_nothing(self):
        source = plain_net(2, [((0, 0), (1, 0))])
        self.assertIs(is_siphon(source, [0]), False)
        self.assertIs(is_trap(source, [0]), True)
        self.assertEqual(minimal_siphons(source), [[1]])
        self.assertEqual(minimal_siphons(plain_net(1, [((0,), (1,))])), [])
        sink = plain_net(2, [((1, 0), (0, 0))])
        self.assertIs(is_siphon(sink, [0]), True)
        self.assertIs(is_trap(sink, [0]), False)

    def test_ascending_order_of_lists(self):
        net = plain_net(4, [((0, 0, 0, 1), (1, 0, 0, 0)), ((1, 0, 0, 0), (0, 0, 0, 1))])
        self.assertEqual(minimal_siphons(net), [[0, 3], [1], [2]])

    def test_all_sets_of_many_nets(self):
        several = 0
        for seed in range(250):
            net = small_net(seed, 1 + seed % 5, seed % 7, 2, 0)
            everything = list(range(net.places))
            for places in parts(everything):
                self.assertIs(is_siphon(net, places), siphon(net, places))
                self.assertIs(is_trap(net, places), trap(net, places))
                within = [part for part in parts(places) if siphon(net, part)]
                self.assertEqual(largest_siphon(net, places), sorted(set(chain.from_iterable(within))))
                within = [part for part in parts(places) if trap(net, part)]
                self.assertEqual(largest_trap(net, places), sorted(set(chain.from_iterable(within))))
            siphons = [set(part) for part in parts(everything) if part and siphon(net, part)]
            minimal = sorted(sorted(part) for part in siphons if not any(other < part for other in siphons))
            self.assertEqual(minimal_siphons(net), minimal)
            several += len(minimal) > 2
        self.assertGreater(several, 20)

    def test_eight_places(self):
        net = small_net(3, 8, 12, 2, 0)
        siphons = [set(part) for part in parts(range(8)) if part and siphon(net, part)]
        minimal = sorted(sorted(part) for part in siphons if not any(other < part for other in siphons))
        self.assertEqual(minimal_siphons(net), minimal)


class CommonTest(unittest.TestCase):
    def test_not_plain(self):
        for function in (is_siphon, is_trap, largest_siphon, largest_trap):
            for places in ([], [0, 1]):
                with self.assertRaises(NotPlain):
                    function(MOVING, places)
        with self.assertRaises(NotPlain):
            minimal_siphons(MOVING)

    def test_arguments_stay_and_lists_are_new(self):
        places = [2, 0, 1, 0]
        for function in (largest_siphon, largest_trap):
            first = function(NET, places)
            first.append(7)
            self.assertEqual(function(NET, places), [0, 1, 2])
        self.assertEqual(places, [2, 0, 1, 0])
        found = minimal_siphons(NET)
        found[0].append(9)
        self.assertEqual(minimal_siphons(NET), [[0]])


if __name__ == "__main__":
    unittest.main()
