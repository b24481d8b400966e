import unittest

from covernets.compiler import compile_protocol, config_of, schedule_of
from covernets.language import parse_protocol
from covernets.mail import MailNet, can_take, take_mail
from covernets.parties import is_bad, is_legal, play, start_state, take_step
from covernets.configs import config_covers
from covernets.protocols import Rule, System
from helpers import HUGE, active_protocol, legal_steps, some_protocol, staying

VARIABLES = [("v", ["x", "y"]), ("w", ["p", "q", "x"])]
CHANNELS = [("box", ["ping", "pong"]), ("tray", ["pong"])]


def compiled(rule, variables=(), channels=(), states="abc"):
    """The transition and the action of a protocol with this rule only."""
    mail, _, _ = compile_protocol(System(list(states), "a", variables, [rule], [], channels=channels))
    return mail.net.transitions[0], mail.actions[0]


def first_fitting(protocol, state, number):
    """The acting parties of a step of the rule, word by word as point 42 says; None if there are none."""
    acting = []
    for source, _ in protocol.rules[number].actors:
        fitting = [party for party, name in enumerate(state[0]) if name == source and party not in acting]
        if not fitting:
            return None
        acting.append(fitting[0])
    return tuple(acting)


class CompileTest(unittest.TestCase):
    def test_places_start_and_channels(self):
        protocol = System(["c", "a", "b"], "a", VARIABLES, [], [], channels=CHANNELS)
        mail, start, goals = compile_protocol(protocol)
        self.assertIsInstance(mail, MailNet)
        self.assertEqual(mail.net.places, 8)
        self.assertEqual(mail.net.transitions, ())
        self.assertEqual(mail.channels, (2, 1))
        self.assertEqual(mail.actions, ())
        self.assertEqual(start, ((0, 0, 0, 1, 0, 1, 0, 0), 1))
        self.assertEqual(goals, [])
        self.assertIsInstance(compile_protocol(protocol), tuple)
        self.assertIsInstance(start, tuple)

    def test_no_variables_and_no_channels(self):
        mail, start, goals = compile_protocol(System(["a"], "a", [], [Rule("r", [("a", "a")])], [([("a", 2)], [])]))
        self.assertEqual((mail.net.places, mail.channels, mail.actions), (1, (), (((), ()),)))
        self.assertEqual((start, goals), (((0,), 0), [((2,), ())]))
        self.assertEqual(mail.net.transitions, (((1,), (1,), (0,)),))

    def test_actors(self):
        rule = Rule("r", [("a", "b"), ("a", "gone"), ("c", "b")])
        self.assertEqual(compiled(rule)[0], ((2, 0, 1), (0, 2, 0), staying(3)))
        rule = Rule("r", [("a", "gone")])
        self.assertEqual(compiled(rule)[0], ((1, 0, 0), (0, 0, 0), staying(3)))
        rule = Rule("r", [("b", "b")] * 3)
        self.assertEqual(compiled(rule)[0], ((0, 3, 0), (0, 3, 0), staying(3)))

    def test_born(self):
        rule = Rule("r", [("a", "c")], born=["b", "c", "b"])
        self.assertEqual(compiled(rule)[0], ((1, 0, 0), (0, 2, 2), staying(3)))

    def test_everyone(self):
        rule = Rule("r", [("a", "a")], everyone=[("c", "a"), ("a", "gone")])
        self.assertEqual(compiled(rule)[0], ((1, 0, 0), (1, 0, 0), (-1, 1, 0)))
        rule = Rule("r", [("a", "a")], everyone=[("b", "b")])
        self.assertEqual(compiled(rule, VARIABLES)[0][2], staying(8))

    def test_conditions_and_effects(self):
        def parts(conditions, effects):
            rule = Rule("r", [("a", "a")], conditions=conditions, effects=effects)
            takes, gives, moves = compiled(rule, VARIABLES, states="a")[0]
            self.assertEqual((takes[0], gives[0], moves[0]), (1, 1, 0))
            return takes[1:], gives[1:], moves[1:]

        stay = (1, 2, 3, 4, 5)
        self.assertEqual(parts([], []), ((0,) * 5, (0,) * 5, stay))
        self.assertEqual(parts([("v", "y")], []), ((0, 1, 0, 0, 0), (0, 1, 0, 0, 0), stay))
        self.assertEqual(parts([], [("v", "y")]), ((0,) * 5, (0,) * 5, (2, 2, 3, 4, 5)))
        self.assertEqual(parts([], [("w", "x")]), ((0,) * 5, (0,) * 5, (1, 2, 5, 5, 5)))
        self.assertEqual(parts([("v", "x")], [("v", "y")]), ((1, 0, 0, 0, 0), (0, 1, 0, 0, 0), stay))
        self.assertEqual(parts([("v", "x")], [("v", "x")]), ((1, 0, 0, 0, 0), (1, 0, 0, 0, 0), stay))
        self.assertEqual(parts([("v", "x")], [("w", "q")]), ((1, 0, 0, 0, 0), (1, 0, 0, 0, 0), (1, 2, 4, 4, 4)))
        self.assertEqual(
            parts([("w", "x"), ("v", "x")], [("v", "y")]), ((1, 0, 0, 0, 1), (0, 1, 0, 0, 1), stay)
        )
        self.assertEqual(
            parts([("w", "p"), ("v", "x")], [("v", "y"), ("w", "x")]), ((1, 0, 1, 0, 0), (0, 1, 0, 0, 1), stay)
        )
        self.assertEqual(parts([], [("w", "p"), ("v", "x")]), ((0,) * 5, (0,) * 5, (1, 1, 3, 3, 3)))

    def test_actions_keep_their_order(self):
        rule = Rule("r", [("a", "a")], hears=[("tray", "pong"), ("box", "pong")], sends=[("box", "ping")])
        self.assertEqual(compiled(rule, (), CHANNELS)[1], (((1, 0), (0, 1)), ((0, 0),)))
        self.assertEqual(compiled(Rule("r", [("a", "a")]), (), CHANNELS)[1], ((), ()))

    def test_goals(self):
        bad = [([("c", 9), ("a", 1)], [("w", "x")]), ([], [("w", "p"), ("v", "y")]), ([("b", 2)], [])]
        _, _, goals = compile_protocol(System(["a", "b", "c"], "b", VARIABLES, [], bad, channels=CHANNELS))
        silence = ((), ())
        self.assertEqual(goals, [
            ((1, 0, 9, 0, 0, 0, 0, 1), silence), ((0, 0, 0, 0, 1, 1, 0, 0), silence), ((0, 2, 0, 0, 0, 0, 0, 0), silence),
        ])

    def test_example_of_point_39(self):
        text = (
            "states idle want crit\nstart idle\nshared lock free held\nchannel box ping pong\n"
            "rule ask: idle -> want send box = ping\n"
            "rule take: want -> crit if lock = free set lock = held\n"
            "rule flee: crit -> idle, want -> gone all idle -> want new idle, idle\n"
            "bad crit 2\nbad want 1, lock = held\n"
        )
        mail, start, goals = compile_protocol(parse_protocol(text))
        self.assertEqual(mail.net.transitions, (
            ((1, 0, 0, 0, 0), (0, 1, 0, 0, 0), staying(5)),
            ((0, 1, 0, 1, 0), (0, 0, 1, 0, 1), staying(5)),
            ((0, 1, 1, 0, 0), (3, 0, 0, 0, 0), (1, 1, 2, 3, 4)),
        ))
        self.assertEqual(mail.actions, (((), ((0, 0),)), ((), ()), ((), ())))
        self.assertEqual((mail.channels, start), ((2,), ((0, 0, 0, 1, 0), 0)))
        self.assertEqual(goals, [((0, 0, 2, 0, 0), ((),)), ((0, 1, 0, 0, 1), ((),))])

    def test_equal_results_and_new_lists(self):
        protocol = active_protocol(5)
        first, second = compile_protocol(protocol), compile_protocol(protocol)
        self.assertEqual(first[0].net.transitions, second[0].net.transitions)
        self.assertEqual(first[1:], second[1:])
        first[2].append("more")
        self.assertEqual(compile_protocol(protocol)[2], second[2])


class ConfigTest(unittest.TestCase):
    def test_ordinary(self):
        protocol = System(["c", "a", "b"], "a", VARIABLES, [], [], channels=CHANNELS)
        state = (("a", "b", "a"), ("y", "x"), (("pong", "ping", "pong"), ()))
        self.assertEqual(config_of(protocol, state), ((0, 2, 1, 0, 1, 0, 0, 1), ((1, 0, 1), ())))

    def test_nobody_and_nothing(self):
        protocol = System(["a"], "a", [], [], [])
        self.assertEqual(config_of(protocol, start_state(protocol, 0)), ((0,), ()))

    def test_beginnings(self):
        for seed in range(60):
            protocol = some_protocol(seed)
            mail, (base, free), _ = compile_protocol(protocol)
            for count in (0, 1, 7):
                marking = tuple(number + count if place == free else number for place, number in enumerate(base))
                config = config_of(protocol, start_state(protocol, count))
                self.assertEqual(config, (marking, ((),) * len(mail.channels)))

    def test_steps_and_firings(self):
        acts = losses = refused = 0
        for seed in range(250):
            protocol = active_protocol(seed, 4, 5) if seed % 3 else some_protocol(seed)
            mail, _, goals = compile_protocol(protocol)
            state = start_state(protocol, 4)
            for turn in range(5):
                config = config_of(protocol, state)
                self.assertIs(is_bad(protocol, state), any(config_covers(config, goal) for goal in goals))
                steps = legal_steps(protocol, state)
                for step in steps:
                    fired = ("fire", step[1]) if step[0] == "act" else step
                    after = config_of(protocol, take_step(protocol, state, step))
                    self.assertEqual(take_mail(mail, config, [fired]), after)
                    acts += step[0] == "act"
                    losses += step[0] == "lose"
                for number in range(len(protocol.rules)):
                    acting = first_fitting(protocol, state, number)
                    legal = acting is not None and is_legal(protocol, state, ("act", number, acting))
                    self.assertIs(can_take(mail, config, ("fire", number)), legal)
                    refused += not legal
                if not steps:
                    break
                state = take_step(protocol, state, steps[(seed * 7 + turn * 5) % len(steps)])
                if len(state[0]) > 7:
                    break
        self.assertGreater(min(acts, losses, refused), 300)


class ScheduleTest(unittest.TestCase):
    def test_first_fitting_parties(self):
        rules = [Rule("go", [("a", "b")]), Rule("meet", [("b", "a"), ("a", "c"), ("a", "gone")])]
        protocol = System(["a", "b", "c"], "a", [], rules, [])
        steps = [("fire", 0), ("fire", 0), ("fire", 1), ("fire", 0)]
        before = list(steps)
        self.assertEqual(
            schedule_of(protocol, 4, steps),
            [("act", 0, (0,)), ("act", 0, (1,)), ("act", 1, (0, 2, 3)), ("act", 0, (0,))],
        )
        self.assertEqual(steps, before)

    def test_actors_of_one_state_and_actors_that_stay(self):
        rule = Rule("go", [("a", "a"), ("a", "b"), ("a", "a")])
        protocol = System(["a", "b"], "a", [], [rule], [])
        self.assertEqual(
            schedule_of(protocol, 4, [("fire", 0), ("fire", 0)]), [("act", 0, (0, 1, 2)), ("act", 0, (0, 2, 3))]
        )

    def test_an_actor_is_not_found_where_an_earlier_one_goes(self):
        rule = Rule("go", [("a", "b"), ("b", "a")])
        protocol = System(["a", "b"], "a", [], [Rule("one", [("a", "b")]), rule], [])
        self.assertEqual(
            schedule_of(protocol, 3, [("fire", 0), ("fire", 1)]), [("act", 0, (0,)), ("act", 1, (1, 0))]
        )

    def test_everyone_born_and_gone(self):
        rule = Rule("call", [("a", "b")], everyone=[("a", "c"), ("b", "gone")], born=["a", "b", "a"])
        protocol = System(["a", "b", "c"], "a", [], [rule], [])
        schedule = schedule_of(protocol, 3, [("fire", 0)] * 3)
        self.assertEqual(schedule, [("act", 0, (0,)), ("act", 0, (3,)), ("act", 0, (4,))])
        states = ["".join(play(protocol, 3, schedule[:many])[0]) for many in range(4)]
        self.assertEqual(states, ["aaa", "bccaba", "ccbcaba", "cccbcaba"])

    def test_losses_stay(self):
        rule = Rule("say", [("a", "a")], sends=[("box", "ping")])
        protocol = System(["a"], "a", [], [rule], [], channels=CHANNELS)
        steps = [("fire", 0), ("fire", 0), ("lose", 0, 1), ("fire", 0), ("lose", 0, 0)]
        self.assertEqual(
            schedule_of(protocol, 1, steps),
            [("act", 0, (0,)), ("act", 0, (0,)), ("lose", 0, 1), ("act", 0, (0,)), ("lose", 0, 0)],
        )
        self.assertEqual(schedule_of(protocol, 0, []), [])

    def test_great_counts(self):
        rules = [
            Rule("go", [("a", "b"), ("a", "a")], born=["c"]), Rule("every", [("c", "c")], everyone=[("a", "b")]),
            Rule("end", [("c", "gone")]),
        ]
        protocol = System(["a", "b", "c"], "a", [], rules, [])
        schedule = schedule_of(protocol, HUGE, [("fire", 0), ("fire", 0), ("fire", 1), ("fire", 2), ("fire", 2)])
        self.assertEqual(schedule, [
            ("act", 0, (0, 1)), ("act", 0, (1, 2)), ("act", 1, (HUGE,)), ("act", 2, (HUGE,)), ("act", 2, (HUGE,)),
        ])

    def test_many_protocols(self):
        played = 0
        for seed in range(300):
            protocol = active_protocol(seed, 4, 5)
            mail, _, _ = compile_protocol(protocol)
            count = 2 + seed % 5
            config = config_of(protocol, start_state(protocol, count))
            first, steps = config, []
            for turn in range(8):
                possible = [("fire", number) for number in range(len(protocol.rules))]
                possible += [("lose", channel, at) for channel, word in enumerate(config[1]) for at in range(len(word))]
                possible = [step for step in possible if can_take(mail, config, step)]
                if possible:
                    steps.append(possible[(seed + 3 * turn) % len(possible)])
                    config = take_mail(mail, config, steps[-1:])
            schedule = schedule_of(protocol, count, steps)
            self.assertIsInstance(schedule, list)
            self.assertEqual(config_of(protocol, play(protocol, count, schedule)), take_mail(mail, first, steps))
            schedule.append("more")
            self.assertEqual(schedule_of(protocol, count, steps), schedule[:-1])
            schedule.pop()
            state = start_state(protocol, count)
            for step, chosen in zip(steps, schedule):
                expected = step if step[0] == "lose" else ("act", step[1], first_fitting(protocol, state, step[1]))
                self.assertEqual(chosen, expected)
                state = take_step(protocol, state, chosen)
                played += 1
        self.assertGreater(played, 800)


if __name__ == "__main__":
    unittest.main()
