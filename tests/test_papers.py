import unittest

from covernets.compiler import compile_protocol
from covernets.errors import CoverError, PaperSyntaxError
from covernets.language import format_protocol, parse_protocol
from covernets.mailcover import judge_mail
from covernets.papers import audit, paper_of
from covernets.verdicts import decide_protocol
from helpers import active_protocol

MEET = parse_protocol("states a b\nstart a\nrule go: a -> b, a -> a\nbad b 2, a 2\n")
POST = parse_protocol(
    "states a b\nstart a\nchannel box s t\nchannel tray u\n"
    "rule put: a -> a send box = s, tray = u\nrule get: a -> b hear box = s\nbad b 1\n"
)
SAFE = parse_protocol(
    "states a b\nstart a\nchannel box s t\nchannel tray u\nrule get: a -> b hear box = s, tray = u\n"
    "rule put: b -> b send box = s, tray = u\nbad b 1\n"
)


class PaperTest(unittest.TestCase):
    def test_reachable(self):
        self.assertEqual(paper_of(MEET), "reachable 4\ngo 0 1\ngo 1 2\n")
        self.assertEqual(paper_of(parse_protocol("states a\nstart a\nbad a 2\n")), "reachable 2\n")

    def test_losses(self):
        protocol = parse_protocol(
            "states a b c\nstart a\nchannel tray x\nchannel box s t\n"
            "rule one: a -> b send box = s\nrule two: b -> b send box = t\nrule get: a -> c hear box = t\nbad c 1\n"
        )
        self.assertEqual(paper_of(protocol), "reachable 2\none 0\ntwo 0\nlose 1 0\nget 1\n")
        self.assertIs(audit(protocol, paper_of(protocol)), True)

    def test_unreachable(self):
        self.assertEqual(paper_of(SAFE), "unreachable\nbarrier 0 1 / /\nbarrier 1 0 / 0 / 0\n")
        self.assertIs(audit(SAFE, paper_of(SAFE)), True)

    def test_longer_words(self):
        protocol = parse_protocol(
            "states a b c\nstart c\nchannel box s t\nrule one: a -> b hear box = t\nrule two: b -> c hear box = s\n"
            "bad c 1, a 1\n"
        )
        self.assertIn("barrier 2 0 0 / 1 0\n", paper_of(protocol))
        self.assertIs(audit(protocol, paper_of(protocol)), True)

    def test_barrier_without_configurations(self):
        protocol = parse_protocol("states a\nstart a\nrule r: a -> gone\n")
        self.assertEqual(paper_of(protocol), "unreachable\n")
        self.assertIs(audit(protocol, "unreachable\n"), True)
        self.assertIs(audit(MEET, "unreachable\n"), False)

    def test_many_protocols(self):
        kinds = {"reachable": 0, "unreachable": 0}
        for seed in range(300):
            protocol = active_protocol(seed, 3, 4, 2)
            text = format_protocol(protocol)
            paper = paper_of(protocol)
            if max(map(len, paper.split())) > 11 or len(paper) > 4000:
                continue
            kind = paper.split()[0]
            kinds[kind] += 1
            verdict = decide_protocol(protocol)
            self.assertEqual(kind == "reachable", verdict.reachable)
            self.assertEqual(len(paper.split("\n")) - 2, len(verdict.schedule if verdict.reachable else verdict.barrier))
            self.assertIs(audit(protocol, paper), True)
            self.assertEqual(paper_of(protocol), paper)
            self.assertEqual(format_protocol(protocol), text)
        self.assertGreater(min(kinds.values()), 60)


class AuditTest(unittest.TestCase):
    def test_example(self):
        self.assertIs(audit(MEET, paper_of(MEET)), True)
        self.assertIs(audit(MEET, "reachable 3\ngo 0 1\ngo 1 2\n"), False)

    def test_other_schedules(self):
        for text, expected in (
            ("reachable 4\ngo 3 0\ngo 1 2\n", True), ("reachable 5\ngo 0 1\ngo 1 2\n", True),
            ("reachable 999\ngo 998 0\ngo 0 1\n", True), ("reachable 4\ngo 0 1\n", False),
            ("reachable 4\n", False), ("reachable 0\n", False), ("reachable 4\ngo 0 0\ngo 1 2\n", False),
            ("reachable 4\ngo 0 1\ngo 0 2\n", False), ("reachable 4\ngo 0 4\ngo 1 2\n", False),
            ("reachable 4\ngo 0 999\n", False), ("reachable 4\nlose 0 0\ngo 0 1\ngo 1 2\n", False),
            ("reachable 4\ngo 0 1\ngo 1 2\nlose 0 0\n", False), ("reachable 4\ngo 0 1\ngo 1 2\ngo 2 3\n", False),
            ("reachable 4\nlose 999 0\n", False),
        ):
            self.assertIs(audit(MEET, text), expected, text)

    def test_losses(self):
        self.assertIs(audit(POST, "reachable 1\nput 0\nget 0\n"), True)
        self.assertIs(audit(POST, "reachable 1\nput 0\nlose 1 0\nget 0\n"), True)
        self.assertIs(audit(POST, "reachable 1\nput 0\nlose 0 0\nget 0\n"), False)
        self.assertIs(audit(POST, "reachable 1\nput 0\nlose 0 1\nget 0\n"), False)
        self.assertIs(audit(POST, "reachable 1\nput 0\nlose 2 0\nget 0\n"), False)

    def test_bad_at_the_beginning(self):
        protocol = parse_protocol("states a\nstart a\nshared v x y\nbad v = x\n")
        self.assertIs(audit(protocol, "reachable 0\n"), True)
        self.assertIs(audit(protocol, "unreachable\n"), False)

    def test_barriers(self):
        for text, expected in (
            ("unreachable\nbarrier 0 1 / /\nbarrier 1 0 / 0 / 0\n", True),
            ("unreachable\nbarrier 1 0 / 0 / 0\nbarrier 0 1 / /\nbarrier 5 5 / 0 1 1 0 / 0 0\n", True),
            ("unreachable\nbarrier 0 1 / /\nbarrier 0 0 / 0 / 0\n", True),
            ("unreachable\nbarrier 0 1 / /\nbarrier 0 0 / 0 /\n", True),
            ("unreachable\nbarrier 0 1 / /\nbarrier 1 0 / 0 /\n", True),
            ("unreachable\nbarrier 0 1 / /\nbarrier 1 0 / 0 0 / 0\n", False),
            ("unreachable\nbarrier 0 1 / /\nbarrier 2 0 / 0 / 0\n", False),
            ("unreachable\nbarrier 0 1 / /\nbarrier 1 0 / 1 / 0\n", False),
            ("unreachable\nbarrier 0 1 / /\nbarrier 999 0 / 0 / 0\n", False),
            ("unreachable\nbarrier 0 1 / /\n", False), ("unreachable\n", False),
            ("unreachable\nbarrier 1 0 / /\nbarrier 0 1 / /\n", False),
            ("unreachable\nbarrier 0 0 / /\n", False), ("reachable 1\nget 0\n", False),
        ):
            self.assertIs(audit(SAFE, text), expected, text)
        mail, start, goals = compile_protocol(SAFE)
        self.assertIs(judge_mail(mail, start, goals, [((0, 1), ((), ())), ((0, 0), ((0,), (0,)))]), True)

    def test_a_true_claim_with_another_schedule_or_barrier_is_not_confirmed(self):
        for seed in range(150):
            protocol = active_protocol(seed, 3, 4, 2)
            if decide_protocol(protocol).reachable:
                self.assertIs(audit(protocol, "unreachable\n"), False)
            elif protocol.bad:
                self.assertIs(audit(protocol, "reachable 3\n"), False)
                self.assertIs(audit(protocol, "unreachable\n"), False)

    def test_rules_with_the_words_of_papers_as_names(self):
        protocol = parse_protocol("states a b\nstart a\nrule barrier: a -> b\nrule reachable: b -> a\nbad b 1\n")
        self.assertEqual(paper_of(protocol), "reachable 1\nbarrier 0\n")
        self.assertIs(audit(protocol, "reachable 1\nbarrier 0\n"), True)
        self.assertIs(audit(protocol, "reachable 1\nbarrier 0\nreachable 0\nbarrier 0\n"), True)


class FormTest(unittest.TestCase):
    def refused(self, protocol, text):
        with self.assertRaises(PaperSyntaxError, msg=repr(text)) as caught:
            audit(protocol, text)
        self.assertIsInstance(caught.exception, CoverError)

    def test_first_lines(self):
        for text in (
            "", "\n", " \n", "reachable\n", "reachable \n", "reachable 4", "reachable  4\n", " reachable 4\n",
            "reachable 4 \n", "reachable 4 4\n", "reachable 04\n", "reachable 00\n", "reachable 1000\n",
            "reachable 0004\n", "reachable -1\n", "reachable +4\n", "reachable x\n", "reachable 4.\n", "Reachable 4\n",
            "reachable: 4\n", "unreachable 4\n", "unreachable \n", " unreachable\n", "unreachable", "unreached\n",
            "go 0 1\n", "barrier 0 1\n", "\nreachable 4\n", "\nunreachable\n", "4 reachable\n", "reachable\n4\n",
        ):
            self.refused(MEET, text)

    def test_steps(self):
        for line in (
            "", " ", "go", "go 0", "go 0 1 2", "go 0 1 ", "go  0 1", "go 0  1", " go 0 1", "go 00 1", "go 01 2",
            "go 0 1000", "go 0 0001", "go 0 -1", "go 0 b", "went 0 1", "Go 0 1", "0 1", "go, 0 1", "go 0, 1", "go 0 /",
            "lose", "lose 0", "lose 0 0 0", "lose 0  0", "lose 00 0", "lose 0 1000", "lose 0 x", "barrier 0 1",
            "reachable 4", "unreachable",
        ):
            self.refused(MEET, f"reachable 4\n{line}\n")
            self.refused(MEET, f"reachable 4\ngo 0 1\n{line}\ngo 1 2\n")

    def test_barriers(self):
        for line in (
            "", " ", "barrier", "barrier 0 1", "barrier 0 1 /", "barrier 0 1 / / /", "barrier 0 / /", "barrier 0 1 2 / /",
            "barrier / 0 1 /", "barrier / /", "barrier  0 1 / /", "barrier 0  1 / /", "barrier 0 1  / /", "barrier 0 1 / / ",
            "barrier 0 1 /  /", " barrier 0 1 / /", "barrier 0 1 //", "barrier 0 1/ /", "barrier 00 1 / /", "barrier 0 01 / /",
            "barrier 0 1000 / /", "barrier 0 -1 / /", "barrier 0 x / /", "barrier 0 1 / 2 /", "barrier 0 1 / 0 / 1",
            "barrier 0 1 / 00 /", "barrier 0 1 / 0 0 2 /", "barrier 0 1 / s /", "barriers 0 1 / /", "get 0", "lose 0 0",
            "reachable 4", "unreachable",
        ):
            self.refused(SAFE, f"unreachable\n{line}\n")
            self.refused(SAFE, f"unreachable\nbarrier 0 1 / /\n{line}\nbarrier 1 0 / 0 / 0\n")

    def test_no_channels(self):
        self.assertIs(audit(MEET, "unreachable\nbarrier 0 0\n"), False)
        self.refused(MEET, "unreachable\nbarrier 0 0 /\n")
        self.refused(MEET, "unreachable\nbarrier 0 0 0\n")

    def test_last_lines(self):
        self.refused(MEET, "reachable 4\ngo 0 1\ngo 1 2")
        self.refused(MEET, "reachable 4\ngo 0 1\ngo 1 2\n\n")
        self.refused(MEET, "reachable 4\ngo 0 1\ngo 1 2\n ")
        self.refused(SAFE, "unreachable\nbarrier 0 1 / /")
        self.refused(SAFE, "unreachable\nbarrier 0 1 / /\n\n")

    def test_lines_of_the_other_kind(self):
        self.refused(MEET, "unreachable\ngo 0 1\n")
        self.refused(MEET, "reachable 4\nbarrier 0 2\n")

    def test_numbers_with_three_digits(self):
        self.assertIs(audit(MEET, "reachable 999\n"), False)
        self.assertIs(audit(MEET, "unreachable\nbarrier 999 999\n"), False)
        self.assertIs(audit(SAFE, "unreachable\nbarrier 0 1 / /\nbarrier 1 0 / 0 / 0\nbarrier 100 0 / 1 1 /\n"), True)

    def test_the_form_is_checked_before_the_claim(self):
        self.refused(MEET, "reachable 0\ngo 0 1\nwent 0 1\n")
        self.refused(SAFE, "unreachable\nbarrier 0 0 / /\nbarrier 0 0\n")


if __name__ == "__main__":
    unittest.main()
