import unittest

from covernets.language import format_protocol, parse_protocol
from covernets.needs import needs
from covernets.protocols import System
from covernets.verdicts import decide_protocol
from helpers import active_protocol, global_states


def with_bad(protocol, bad):
    return System(
        protocol.states, protocol.start, protocol.variables, protocol.rules, bad, channels=protocol.channels
    )


class NeedsTest(unittest.TestCase):
    def test_example(self):
        text = "states a b c d\nstart a\nrule go: a -> b, a -> b\nrule on: b -> c, a -> a\n"
        self.assertEqual(needs(parse_protocol(text)), (1, 2, 3, None))

    def test_no_rules(self):
        self.assertEqual(needs(parse_protocol("states b a\nstart a\n")), (None, 1))
        self.assertEqual(needs(parse_protocol("states a\nstart a\nbad a 9\n")), (1,))

    def test_variables_that_are_never_set(self):
        text = "states a b\nstart a\nshared v x y\nrule go: a -> b if v = y\n"
        self.assertEqual(needs(parse_protocol(text)), (1, None))
        self.assertEqual(needs(parse_protocol(text + "rule put: a -> gone set v = y\n")), (1, 2))

    def test_a_value_is_held_once(self):
        text = "states a b c\nstart a\nshared v x y\nrule take: a -> b if v = x set v = y\nrule two: b -> c, b -> c\n"
        self.assertEqual(needs(parse_protocol(text)), (1, 1, None))

    def test_letters_and_everyone(self):
        text = "states a b c\nstart a\nchannel box s t\nrule put: a -> gone send box = s\nrule get: a -> b hear box = s\n"
        self.assertEqual(needs(parse_protocol(text)), (1, 2, None))
        self.assertEqual(needs(parse_protocol(text + "rule ring: b -> gone all a -> c\n")), (1, 2, 3))
        self.assertEqual(needs(parse_protocol(text + "rule old: b -> c hear box = t\n")), (1, 2, None))

    def test_born(self):
        text = "states a b c\nstart a\nrule grow: a -> b new a\nrule join: b -> c, b -> gone, b -> gone\n"
        self.assertEqual(needs(parse_protocol(text)), (1, 1, 1))

    def test_many(self):
        text = "states a b c d e f\nstart a\n"
        for first, second in zip("abcde", "bcdef"):
            text += f"rule {first}: {first} -> {second}, {first} -> gone\n"
        self.assertEqual(needs(parse_protocol(text)), (1, 2, 4, 8, 16, 32))

    def test_many_protocols(self):
        some = none = 0
        for seed in range(300):
            protocol = active_protocol(seed, 4, 5)
            text = format_protocol(protocol)
            found = needs(protocol)
            self.assertIsInstance(found, tuple)
            self.assertEqual(len(found), len(protocol.states))
            for state, need in zip(protocol.states, found):
                self.assertEqual(need, decide_protocol(with_bad(protocol, [([(state, 1)], [])])).parties)
                some += need is not None and need > 1
                none += need is None
                for count in range(min(3, 3 if need is None else need)):
                    for parties, _, _ in global_states(protocol, count, 40):
                        self.assertNotIn(state, parties)
            self.assertEqual(found[protocol.states.index(protocol.start)], 1)
            # Bad patterns do not matter.
            self.assertEqual(needs(with_bad(protocol, [])), found)
            self.assertEqual(format_protocol(protocol), text)
        self.assertGreater(min(some, none), 60)


if __name__ == "__main__":
    unittest.main()
