import unittest

from covernets.agreement import agreement
from covernets.errors import CoverError, TooMany
from covernets.language import format_protocol, parse_protocol
from covernets.protocols import Rule, System
from helpers import HUGE, active_protocol, global_states, next_states

MEET = parse_protocol("states a b\nstart a\nrule meet: a -> b, a -> b\nrule call: b -> b, a -> b\n")


def by_following(protocol, ones, count):
    """The answer as point 48 says, from the graph of all global states; None if there are many."""
    states = global_states(protocol, count, 400)
    if len(states) == 400 or max(len(state[0]) for state in states) > 4:
        return None
    following = {state: set(next_states(protocol, state)) for state in states}

    def reached(state):
        seen, waiting = {state}, [state]
        for current in waiting:
            for result in following[current] - seen:
                seen.add(result)
                waiting.append(result)
        return seen

    behind = {state: reached(state) for state in states}
    finals = [state for state in states if all(state in behind[other] for other in behind[state])]
    if all(set(parties) <= set(ones) for parties, _, _ in finals):
        return "yes"
    return "no" if all(not set(parties) & set(ones) for parties, _, _ in finals) else "open"


class AgreementTest(unittest.TestCase):
    def test_example(self):
        self.assertEqual([agreement(MEET, ["b"], count, 50) for count in (0, 1, 2, 3)], ["yes", "no", "yes", "yes"])
        self.assertEqual([agreement(MEET, ["a"], count, 50) for count in (0, 1, 2, 3)], ["yes", "yes", "no", "no"])

    def test_no_ones_and_all_states_as_ones(self):
        for count in range(4):
            self.assertEqual(agreement(MEET, ["a", "b"], count, 50), "yes")
            self.assertEqual(agreement(MEET, [], count, 50), "no" if count else "yes")

    def test_open(self):
        protocol = parse_protocol("states a b c\nstart a\nrule left: a -> b\nrule right: a -> c\n")
        self.assertEqual(agreement(protocol, ["b"], 1, 50), "open")
        self.assertEqual(agreement(protocol, ["b", "c"], 1, 50), "yes")
        self.assertEqual(agreement(protocol, ["a"], 3, 50), "no")
        swing = parse_protocol("states a b\nstart a\nrule go: a -> b\nrule back: b -> a\n")
        self.assertEqual(agreement(swing, ["b"], 2, 50), "open")
        self.assertEqual(agreement(swing, ["a", "b"], 2, 50), "yes")
        half = parse_protocol("states a b\nstart a\nrule go: a -> b, a -> a\n")
        self.assertEqual([agreement(half, ["b"], count, 50) for count in (1, 2, 3)], ["no", "open", "open"])

    def test_parties_that_leave(self):
        protocol = parse_protocol("states a b\nstart a\nrule go: a -> gone, a -> b\nrule end: b -> gone\n")
        self.assertEqual([agreement(protocol, ["b"], count, 50) for count in range(5)], ["yes", "no", "yes", "no", "yes"])

    def test_parties_that_are_born(self):
        protocol = parse_protocol("states a b\nstart a\nshared v x y\nrule go: a -> b new a if v = x set v = y\n")
        self.assertEqual([agreement(protocol, ["b"], count, 50) for count in range(3)], ["yes", "open", "open"])
        endless = parse_protocol("states a b\nstart a\nrule go: a -> b new a\n")
        with self.assertRaises(TooMany):
            agreement(endless, ["b"], 1, 1000)
        self.assertEqual(agreement(endless, ["b"], 0, 1), "yes")

    def test_everyone_and_variables(self):
        protocol = parse_protocol(
            "states a b c\nstart a\nshared v x y\nrule win: a -> c all a -> b if v = x set v = y\nrule join: b -> c\n"
        )
        self.assertEqual(agreement(protocol, ["c"], 5, 50), "yes")
        self.assertEqual(agreement(protocol, ["b"], 5, 50), "no")

    def test_limits(self):
        # With 5 parties: 5 0, 4 1, .. 0 5.
        protocol = parse_protocol("states a b\nstart a\nrule go: a -> b\n")
        self.assertEqual(agreement(protocol, ["b"], 5, 6), "yes")
        with self.assertRaises(TooMany) as caught:
            agreement(protocol, ["b"], 5, 5)
        self.assertIsInstance(caught.exception, CoverError)
        with self.assertRaises(TooMany):
            agreement(protocol, ["b"], 1, 1)
        self.assertEqual(agreement(protocol, ["b"], 0, 1), "yes")

    def test_great_counts(self):
        protocol = System(["a", "b"], "a", [], [Rule("every", [("a", "b")], everyone=[("a", "b")])], [])
        self.assertEqual(agreement(protocol, ["b"], HUGE, 2), "yes")
        self.assertEqual(agreement(System(["a", "b"], "a", [], [], []), ["b"], HUGE, 1), "no")
        with self.assertRaises(TooMany):
            agreement(MEET, ["b"], HUGE, 20)

    def test_many_protocols(self):
        answers = {"yes": 0, "no": 0, "open": 0}
        for seed in range(400):
            protocol = active_protocol(seed, 3, 4, channels=0)
            text = format_protocol(protocol)
            ones = [state for at, state in enumerate(protocol.states) if (seed + at) % 3]
            before = list(ones)
            for count in range(4):
                expected = by_following(protocol, ones, count)
                if expected is not None:
                    self.assertEqual(agreement(protocol, ones, count, 1000), expected)
                    self.assertEqual(agreement(protocol, ones[::-1], count, 1000), expected)
                    answers[expected] += count > 0
            self.assertEqual((ones, format_protocol(protocol)), (before, text))
        self.assertGreater(min(answers.values()), 100)


if __name__ == "__main__":
    unittest.main()
