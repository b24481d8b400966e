import unittest

from covernets.compiler import compile_protocol
from covernets.language import format_protocol, parse_protocol
from covernets.mailcover import judge_mail, mail_basis
from covernets.parties import is_bad, play
from covernets.protocols import Rule, System
from covernets.verdicts import Verdict, decide_protocol
from helpers import active_protocol, global_states

LOCK = """states idle crit
start idle
shared lock free held
rule take: idle -> crit if lock = free set lock = held
rule back: crit -> idle set lock = free
"""


class VerdictTest(unittest.TestCase):
    def test_copies(self):
        acting, schedule = [0, 1], []
        schedule += [["act", 0, acting], ["lose", 0, 1]]
        barrier = [[[1, 2], [[0], []]]]
        verdict = Verdict(True, 2, schedule, barrier)
        acting.append(5)
        schedule[0][1] = 7
        schedule.pop()
        barrier[0][0].append(3)
        barrier[0][1][1].append(9)
        barrier.append("more")
        self.assertEqual((verdict.reachable, verdict.parties), (True, 2))
        self.assertEqual(verdict.schedule, (("act", 0, (0, 1)), ("lose", 0, 1)))
        self.assertEqual(verdict.barrier, (((1, 2), ((0,), ())),))

    def test_without_schedule(self):
        verdict = Verdict(False, None, None, [])
        self.assertEqual((verdict.reachable, verdict.parties, verdict.schedule, verdict.barrier), (False, None, None, ()))
        self.assertEqual(Verdict(True, 0, [], []).schedule, ())


class DecideTest(unittest.TestCase):
    def test_example(self):
        verdict = decide_protocol(parse_protocol("states a b\nstart a\nrule go: a -> b, a -> a\nbad b 2\n"))
        self.assertIs(verdict.reachable, True)
        self.assertEqual((verdict.parties, verdict.barrier), (3, (((0, 2), ()), ((2, 1), ()), ((3, 0), ()))))
        self.assertIsInstance(verdict.schedule, tuple)

    def test_unreachable(self):
        verdict = decide_protocol(parse_protocol(LOCK + "bad crit 2\n"))
        self.assertIs(verdict.reachable, False)
        self.assertEqual((verdict.parties, verdict.schedule), (None, None))
        # With two tokens for the lock, as no global state has them, two parties could enter, too.
        self.assertEqual(verdict.barrier, (
            ((0, 2, 0, 0), ()), ((1, 1, 0, 2), ()), ((1, 1, 1, 0), ()), ((2, 0, 1, 1), ()), ((2, 0, 2, 0), ()),
        ))
        mail, start, goals = compile_protocol(parse_protocol(LOCK + "bad crit 2\n"))
        self.assertIs(judge_mail(mail, start, goals, list(verdict.barrier)), True)

    def test_values_and_counts(self):
        verdict = decide_protocol(parse_protocol(LOCK + "bad idle 3, lock = held\n"))
        self.assertEqual((verdict.parties, verdict.schedule), (4, (("act", 0, (0,)),)))
        verdict = decide_protocol(parse_protocol(LOCK + "bad crit 1, lock = free\n"))
        self.assertIs(verdict.reachable, False)

    def test_bad_at_the_beginning(self):
        verdict = decide_protocol(parse_protocol(LOCK + "bad lock = free\n"))
        self.assertEqual((verdict.reachable, verdict.parties, verdict.schedule), (True, 0, ()))
        verdict = decide_protocol(parse_protocol(LOCK + "bad crit 2\nbad idle 9\n"))
        self.assertEqual((verdict.reachable, verdict.parties, verdict.schedule), (True, 9, ()))

    def test_no_bad_patterns_and_no_rules(self):
        verdict = decide_protocol(parse_protocol(LOCK))
        self.assertEqual((verdict.reachable, verdict.parties, verdict.schedule, verdict.barrier), (False, None, None, ()))
        verdict = decide_protocol(parse_protocol("states a b\nstart a\nbad b 1\n"))
        self.assertEqual((verdict.reachable, verdict.barrier), (False, (((0, 1), ()),)))

    def test_channels_that_lose(self):
        text = (
            "states a b c\nstart a\nchannel box s t\n"
            "rule one: a -> b send box = s\nrule two: b -> b send box = t\nrule get: a -> c hear box = t\nbad c 1\n"
        )
        verdict = decide_protocol(parse_protocol(text))
        self.assertEqual(verdict.parties, 2)
        self.assertEqual([step[0] for step in verdict.schedule], ["act", "act", "lose", "act"])
        self.assertIs(is_bad(parse_protocol(text), play(parse_protocol(text), 2, verdict.schedule)), True)

    def test_many_parties(self):
        text = "states a b c d\nstart a\n"
        for first, second in zip("abc", "bcd"):
            text += f"rule {first}: {first} -> {second}, {first} -> gone, {first} -> gone\n"
        protocol = parse_protocol(text + "bad d 2\n")
        verdict = decide_protocol(protocol)
        self.assertEqual((verdict.parties, len(verdict.schedule)), (54, 26))
        self.assertIs(is_bad(protocol, play(protocol, verdict.parties, verdict.schedule)), True)

    def test_many_protocols(self):
        reached = safe = 0
        for seed in range(400):
            protocol = active_protocol(seed, 3, 4, 2)
            text = format_protocol(protocol)
            mail, start, goals = compile_protocol(protocol)
            verdict = decide_protocol(protocol)
            self.assertEqual(verdict.barrier, tuple(mail_basis(mail, goals)))
            if verdict.reachable:
                reached += 1
                self.assertTrue(is_bad(protocol, play(protocol, verdict.parties, verdict.schedule)))
                self.assertIs(judge_mail(mail, start, goals, list(verdict.barrier)), False)
            else:
                safe += 1
                self.assertEqual((verdict.parties, verdict.schedule), (None, None))
                self.assertIs(judge_mail(mail, start, goals, list(verdict.barrier)), True)
            for count in range(min(4, verdict.parties) if verdict.reachable else 4):
                for state in global_states(protocol, count, 120):
                    self.assertFalse(is_bad(protocol, state), (seed, state))
            again = decide_protocol(protocol)
            self.assertEqual(
                (again.parties, again.schedule, again.barrier), (verdict.parties, verdict.schedule, verdict.barrier)
            )
            self.assertEqual(format_protocol(protocol), text)
        self.assertGreater(min(reached, safe), 100)

    def test_great_protocols(self):
        for seed in range(12):
            protocol = active_protocol(seed, 6, 8, 5, channels=0)
            verdict = decide_protocol(protocol)
            if verdict.reachable:
                self.assertTrue(is_bad(protocol, play(protocol, verdict.parties, verdict.schedule)))

    def test_two_actors_that_meet(self):
        rules = [Rule("make", [("a", "b"), ("a", "gone")]), Rule("join", [("b", "c"), ("b", "gone")])]
        verdict = decide_protocol(System(["a", "b", "c"], "a", [], rules, [([("c", 2), ("a", 1)], [])]))
        self.assertEqual((verdict.parties, len(verdict.schedule)), (9, 6))


if __name__ == "__main__":
    unittest.main()
