import random
import unittest

from covernets.errors import IllegalStep
from covernets.parties import is_bad, is_legal, play, start_state, take_step
from covernets.protocols import Rule, System
from helpers import HUGE, some_protocol

LOCK = [("lock", ["free", "held"])]
BOX = [("box", ["ping", "pong"])]


def one_rule(rule, bad=(), states="abc"):
    return System(list(states), "a", LOCK, [rule], bad, channels=BOX)


def state_of(parties, lock="free", word=()):
    return tuple(parties), (lock,), (tuple(word),)


def all_steps(protocol, state, most):
    """All steps with acting parties that exist, and some that do not."""
    steps = [("lose", channel, at) for channel, word in enumerate(state[2]) for at in range(len(word) + 1)]
    chooser = random.Random(len(state[0]))
    for number, rule in enumerate(protocol.rules):
        for _ in range(most):
            steps.append(("act", number, tuple(chooser.randint(0, len(state[0])) for _ in rule.actors)))
    return steps


def legal(protocol, state, step):
    """What point 37 says of legal steps, word by word."""
    parties, values, words = state
    if step[0] == "lose":
        return step[1] < len(words) and step[2] < len(words[step[1]])
    rule = protocol.rules[step[1]]
    if len(set(step[2])) < len(step[2]):
        return False
    for party, (state, _) in zip(step[2], rule.actors):
        if party >= len(parties) or parties[party] != state:
            return False
    named = dict(zip([name for name, _ in protocol.variables], values))
    heard = dict(zip([name for name, _ in protocol.channels], words))
    if any(named[name] != value for name, value in rule.conditions):
        return False
    return all(heard[name] and heard[name][0] == letter for name, letter in rule.hears)


def after(protocol, state, step):
    """What point 37 says of what a legal step leads to, word by word."""
    parties, values, words = list(state[0]), list(state[1]), [list(word) for word in state[2]]
    if step[0] == "lose":
        del words[step[1]][step[2]]
        return tuple(parties), tuple(values), tuple(map(tuple, words))
    rule = protocol.rules[step[1]]
    result = []
    for party, old in enumerate(parties):
        new = old
        if party in step[2]:
            new = rule.actors[step[2].index(party)][1]
        else:
            for first, second in rule.everyone:
                if first == old:
                    new = second
        if new != "gone":
            result.append(new)
    result += rule.born
    for name, value in rule.effects:
        values[[other for other, _ in protocol.variables].index(name)] = value
    for name, _ in rule.hears:
        words[[other for other, _ in protocol.channels].index(name)].pop(0)
    for name, letter in rule.sends:
        words[[other for other, _ in protocol.channels].index(name)].append(letter)
    return tuple(result), tuple(values), tuple(map(tuple, words))


class StartTest(unittest.TestCase):
    def test_ordinary(self):
        protocol = System(["b", "a"], "a", [("v", ["y", "x"]), ("w", ["x", "z"])], [], [], channels=BOX)
        self.assertEqual(start_state(protocol, 3), (("a", "a", "a"), ("y", "x"), ((),)))
        self.assertEqual(start_state(protocol, 0), ((), ("y", "x"), ((),)))

    def test_without_variables_and_channels(self):
        self.assertEqual(start_state(System(["a"], "a", [], [], []), 1), (("a",), (), ()))


class LegalTest(unittest.TestCase):
    def test_acting_parties(self):
        protocol = one_rule(Rule("go", [("a", "b"), ("b", "c")]))
        state = state_of("abba")
        for acting, expected in (
            ((0, 1), True), ((0, 2), True), ((3, 1), True), ((1, 0), False), ((0, 0), False), ((0, 3), False),
            ((0,), False), ((0, 1, 2), False), ((), False), ((0, 4), False), ((-4, 1), False), ((0, -2), False),
            ((HUGE, 1), False), ((0, -HUGE), False),
        ):
            self.assertIs(is_legal(protocol, state, ("act", 0, acting)), expected, acting)

    def test_several_actors_of_one_state(self):
        protocol = one_rule(Rule("go", [("a", "b"), ("a", "c")]))
        self.assertEqual(take_step(protocol, state_of("aba"), ("act", 0, (2, 0))), state_of("cbb"))
        self.assertIs(is_legal(protocol, state_of("aba"), ("act", 0, (0, 0))), False)
        self.assertIs(is_legal(protocol, state_of("abb"), ("act", 0, (0, 1))), False)

    def test_rules_that_are_not_there(self):
        protocol = one_rule(Rule("go", [("a", "b")]))
        for number in (1, -1, HUGE, -HUGE):
            self.assertIs(is_legal(protocol, state_of("a"), ("act", number, (0,))), False)

    def test_losses_that_are_not_possible(self):
        protocol = one_rule(Rule("go", [("a", "b")]))
        state = state_of("a", word=("ping", "pong"))
        for channel, position in ((0, 2), (0, -1), (1, 0), (-1, 0), (HUGE, 0), (0, HUGE), (0, -HUGE)):
            self.assertIs(is_legal(protocol, state, ("lose", channel, position)), False)
        self.assertIs(is_legal(protocol, state, ("lose", 0, 0)), True)
        self.assertIs(is_legal(protocol, state_of("a"), ("lose", 0, 0)), False)

    def test_conditions(self):
        protocol = one_rule(Rule("go", [("a", "b")], conditions=[("lock", "held")]))
        self.assertIs(is_legal(protocol, state_of("a", "held"), ("act", 0, (0,))), True)
        self.assertIs(is_legal(protocol, state_of("a", "free"), ("act", 0, (0,))), False)

    def test_hears(self):
        protocol = one_rule(Rule("go", [("a", "b")], hears=[("box", "pong")]))
        for word, expected in ((("pong",), True), (("pong", "ping"), True), (("ping", "pong"), False), ((), False)):
            self.assertIs(is_legal(protocol, state_of("a", word=word), ("act", 0, (0,))), expected)


class StepTest(unittest.TestCase):
    def test_example(self):
        rule = Rule("call", [("a", "b")], everyone=[("a", "c")], born=["a"])
        schedule = [("act", 0, (1,)), ("act", 0, (3,))]
        protocol = System(["a", "b", "c"], "a", [], [rule], [])
        self.assertEqual(play(protocol, 3, schedule), (("c", "b", "c", "b", "a"), (), ()))
        self.assertEqual(schedule, [("act", 0, (1,)), ("act", 0, (3,))])

    def test_actors_that_are_gone(self):
        protocol = one_rule(Rule("go", [("a", "gone"), ("b", "c")]))
        self.assertEqual(take_step(protocol, state_of("cabb"), ("act", 0, (1, 3))), state_of("cbc"))

    def test_everyone_but_the_actors(self):
        protocol = one_rule(Rule("go", [("a", "b"), ("a", "a")], everyone=[("a", "gone"), ("b", "a"), ("c", "b")]))
        self.assertEqual(take_step(protocol, state_of("aabcaba"), ("act", 0, (4, 1))), state_of("aabba"))

    def test_everyone_goes_once(self):
        protocol = one_rule(Rule("go", [("a", "a")], everyone=[("b", "c"), ("c", "b")]))
        self.assertEqual(take_step(protocol, state_of("abcb"), ("act", 0, (0,))), state_of("acbc"))

    def test_parties_that_are_born(self):
        protocol = one_rule(Rule("go", [("a", "gone")], everyone=[("b", "c")], born=["b", "a", "b"]))
        self.assertEqual(take_step(protocol, state_of("bac"), ("act", 0, (1,))), state_of("ccbab"))

    def test_conditions_and_effects(self):
        step = ("act", 0, (0,))
        effect = one_rule(Rule("go", [("a", "b")], effects=[("lock", "held")]))
        self.assertEqual(take_step(effect, state_of("a"), step), state_of("b", "held"))
        self.assertEqual(take_step(effect, state_of("a", "held"), step), state_of("b", "held"))
        both = one_rule(Rule("go", [("a", "b")], conditions=[("lock", "held")], effects=[("lock", "free")]))
        self.assertEqual(take_step(both, state_of("a", "held"), step), state_of("b", "free"))
        condition = one_rule(Rule("go", [("a", "b")], conditions=[("lock", "held")]))
        self.assertEqual(take_step(condition, state_of("a", "held"), step), state_of("b", "held"))

    def test_second_variable(self):
        rule = Rule("go", [("a", "a")], conditions=[("w", "p"), ("v", "x")], effects=[("w", "q")])
        protocol = System(["a"], "a", [("v", ["x", "y"]), ("w", ["p", "q"])], [rule], [])
        self.assertEqual(play(protocol, 1, [("act", 0, (0,))]), (("a",), ("x", "q"), ()))

    def test_letters_are_heard_before_others_are_sent(self):
        protocol = one_rule(Rule("go", [("a", "a")], hears=[("box", "ping")], sends=[("box", "pong")]))
        state = take_step(protocol, state_of("a", word=("ping", "ping")), ("act", 0, (0,)))
        self.assertEqual(state, state_of("a", word=("ping", "pong")))
        protocol = one_rule(Rule("go", [("a", "a")], hears=[("box", "ping")], sends=[("box", "ping")]))
        self.assertIs(is_legal(protocol, state_of("a"), ("act", 0, (0,))), False)

    def test_two_channels(self):
        rule = Rule("go", [("a", "a")], hears=[("q", "x"), ("p", "y")], sends=[("q", "z")])
        protocol = System(["a"], "a", [], [rule], [], channels=[("p", ["y"]), ("q", ["x", "z"])])
        state = (("a",), (), (("y", "y"), ("x",)))
        self.assertEqual(take_step(protocol, state, ("act", 0, (0,))), (("a",), (), (("y",), ("z",))))
        self.assertEqual(take_step(protocol, state, ("lose", 1, 0)), (("a",), (), (("y", "y"), ())))

    def test_letters_are_lost_anywhere(self):
        protocol = one_rule(Rule("go", [("a", "a")]))
        state = state_of("ab", "held", ("ping", "pong", "ping"))
        for position, word in enumerate((("pong", "ping"), ("ping", "ping"), ("ping", "pong"))):
            self.assertEqual(take_step(protocol, state, ("lose", 0, position)), state_of("ab", "held", word))

    def test_illegal_steps(self):
        protocol = one_rule(Rule("go", [("a", "b")]))
        for step in (("act", 0, (1,)), ("act", 1, (0,)), ("act", 0, ()), ("lose", 0, 0), ("lose", 5, 5)):
            with self.assertRaises(IllegalStep) as caught:
                take_step(protocol, state_of("ab"), step)
            self.assertEqual(caught.exception.position, 0)

    def test_positions_in_schedules(self):
        protocol = one_rule(Rule("go", [("a", "b")]))
        good = [("act", 0, (0,)), ("act", 0, (1,))]
        self.assertEqual(play(protocol, 2, good), state_of("bb"))
        self.assertEqual(play(protocol, 2, []), state_of("aa"))
        for position, schedule in enumerate(([("lose", 0, 0)] + good, good[:1] * 2 + good, good + good)):
            with self.assertRaises(IllegalStep) as caught:
                play(protocol, 2, schedule)
            self.assertEqual(caught.exception.position, position)

    def test_many_protocols(self):
        legal_steps = 0
        for seed in range(150):
            protocol = some_protocol(seed)
            state = start_state(protocol, 4)
            for _ in range(6):
                taken = []
                for step in all_steps(protocol, state, 12):
                    expected = legal(protocol, state, step)
                    self.assertIs(is_legal(protocol, state, step), expected)
                    if expected:
                        self.assertEqual(take_step(protocol, state, step), after(protocol, state, step))
                        taken.append(take_step(protocol, state, step))
                legal_steps += len(taken)
                if taken:
                    state = taken[seed % len(taken)]
        self.assertGreater(legal_steps, 1000)


class BadTest(unittest.TestCase):
    def test_counts_alone(self):
        protocol = one_rule(Rule("go", [("a", "b")]), [([("a", 2), ("b", 1)], [])])
        for parties, expected in (("aab", True), ("abcaba", True), ("ab", False), ("aa", False), ("", False)):
            self.assertIs(is_bad(protocol, state_of(parties)), expected)

    def test_values_alone(self):
        protocol = one_rule(Rule("go", [("a", "b")]), [([], [("lock", "held")])])
        self.assertIs(is_bad(protocol, state_of("", "held")), True)
        self.assertIs(is_bad(protocol, state_of("abc", "free")), False)

    def test_both_and_several_patterns(self):
        protocol = one_rule(Rule("go", [("a", "b")]), [([("c", 1)], [("lock", "held")]), ([("b", 2)], [])])
        for parties, lock, expected in (
            ("c", "held", True), ("c", "free", False), ("a", "held", False), ("bb", "free", True), ("b", "held", False)
        ):
            self.assertIs(is_bad(protocol, state_of(parties, lock)), expected)

    def test_no_patterns(self):
        self.assertIs(is_bad(one_rule(Rule("go", [("a", "b")])), state_of("abc", "held")), False)

    def test_several_values(self):
        protocol = System(["a"], "a", [("v", ["x", "y"]), ("w", ["x", "y"])], [], [([], [("w", "y"), ("v", "x")])])
        self.assertIs(is_bad(protocol, ((), ("x", "y"), ())), True)
        self.assertIs(is_bad(protocol, ((), ("y", "y"), ())), False)
        self.assertIs(is_bad(protocol, ((), ("x", "x"), ())), False)


if __name__ == "__main__":
    unittest.main()
