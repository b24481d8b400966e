import unittest
from itertools import combinations

from covernets.blame import blames, repairs, restricted
from covernets.language import format_protocol, parse_protocol
from covernets.protocols import Rule, System
from covernets.verdicts import decide_protocol
from helpers import active_protocol

EXAMPLE = "states a b c\nstart a\nrule up: a -> b\nrule on: b -> c\nrule off: b -> a\nbad c 1\n"


def all_sets(many):
    return [chosen for size in range(many + 1) for chosen in combinations(range(many), size)]


def by_trying(protocol):
    """The blames and the repairs, as point 44 says, from the verdicts on all sets of rules."""
    sets = all_sets(len(protocol.rules))
    enough = {chosen for chosen in sets if decide_protocol(restricted(protocol, chosen)).reachable}
    safe = [chosen for chosen in sets if chosen not in enough]
    least = [chosen for chosen in enough if not any(set(other) < set(chosen) for other in enough)]
    greatest = [chosen for chosen in safe if not any(set(chosen) < set(other) for other in safe)]
    return sorted(least), sorted(greatest)


class RestrictedTest(unittest.TestCase):
    def test_ordinary(self):
        protocol = parse_protocol(
            "states a b\nstart b\nshared v x y\nchannel box s\nrule r0: a -> b if v = x\nrule r1: b -> a set v = y\n"
            "rule r2: b -> gone all a -> b new a send box = s\nbad a 1, v = y\nbad b 2\n"
        )
        before = format_protocol(protocol)
        lines = before.split("\n")
        for chosen in all_sets(3):
            part = restricted(protocol, chosen)
            self.assertIsInstance(part, System)
            expected = [line for at, line in enumerate(lines) if at - 4 not in {0, 1, 2} - set(chosen)]
            self.assertEqual(format_protocol(part), "\n".join(expected))
        self.assertEqual(format_protocol(protocol), before)

    def test_rules_keep_their_order(self):
        protocol = active_protocol(3, 4, 6)
        chosen = tuple(range(0, len(protocol.rules), 2))
        self.assertEqual(restricted(protocol, chosen).rules, tuple(protocol.rules[index] for index in chosen))


class BlameTest(unittest.TestCase):
    def check(self, protocol):
        text = format_protocol(protocol)
        least, greatest = blames(protocol), repairs(protocol)
        self.assertIsInstance(least, list)
        self.assertEqual((least, greatest), by_trying(protocol))
        self.assertTrue(all(isinstance(chosen, tuple) for chosen in least + greatest))
        least.append("more")
        greatest.append("more")
        self.assertEqual((blames(protocol), repairs(protocol)), (least[:-1], greatest[:-1]))
        self.assertEqual(format_protocol(protocol), text)
        return least[:-1], greatest[:-1]

    def test_example(self):
        self.assertEqual(self.check(parse_protocol(EXAMPLE)), ([(0, 1)], [(0, 2), (1, 2)]))

    def test_without_a_blame(self):
        protocol = parse_protocol(EXAMPLE.replace("rule up: a", "rule up: c"))
        self.assertEqual(self.check(protocol), ([], [(0, 1, 2)]))
        self.assertEqual(self.check(parse_protocol(EXAMPLE.replace("bad c 1\n", ""))), ([], [(0, 1, 2)]))

    def test_the_empty_set_of_rules(self):
        self.assertEqual(self.check(parse_protocol(EXAMPLE + "bad a 3\n")), ([()], []))
        self.assertEqual(self.check(parse_protocol("states a\nstart a\nbad a 1\n")), ([()], []))
        self.assertEqual(self.check(parse_protocol("states a b\nstart a\nbad b 1\n")), ([], [()]))

    def test_several_blames(self):
        protocol = parse_protocol(
            "states a b c\nstart a\nrule r0: a -> b\nrule r1: a -> b\nrule r2: b -> c\nrule r3: a -> c\nbad c 1\n"
        )
        self.assertEqual(self.check(protocol), ([(0, 2), (1, 2), (3,)], [(0, 1), (2,)]))

    def test_eight_rules(self):
        rules = [Rule(f"r{number}", [("a", "b" if number % 2 else "c")]) for number in range(8)]
        least, greatest = self.check(System(["a", "b", "c"], "a", [], rules, [([("b", 1), ("c", 1)], [])]))
        self.assertEqual(least, [(first, other) for first in range(8) for other in range(first + 1, 8, 2)])
        self.assertEqual(greatest, [(0, 2, 4, 6), (1, 3, 5, 7)])

    def test_many_protocols(self):
        some = none = 0
        for seed in range(150):
            least, _ = self.check(active_protocol(seed, 4, 5, 2))
            some += len(least) > 1
            none += least == []
        self.assertGreater(min(some, none), 10)


if __name__ == "__main__":
    unittest.main()
