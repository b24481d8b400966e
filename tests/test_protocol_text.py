import random
import unittest

from covernets.errors import ProtocolSyntaxError
from covernets.language import format_protocol, parse_protocol
from covernets.protocols import Rule, System
from helpers import some_protocol

TEXT = """states idle want crit
start idle
shared lock free held
channel box ping pong
rule ask: idle -> want send box = ping
rule take: want -> crit if lock = free set lock = held
rule flee: crit -> idle, want -> gone all idle -> want new idle, idle
bad crit 2
bad want 1, lock = held
"""
LINES = TEXT.split("\n")[:-1]


def parts(protocol):
    rules = [
        (rule.name, rule.actors, rule.everyone, rule.born, rule.conditions, rule.effects, rule.hears, rule.sends)
        for rule in protocol.rules
    ]
    return protocol.states, protocol.start, protocol.variables, protocol.channels, rules, protocol.bad


def changed(number, line):
    """The text with another line in place of the one with this number."""
    return "".join(other + "\n" for other in LINES[:number] + [line] + LINES[number + 1:])


class TextCase(unittest.TestCase):
    def assert_wrong(self, text, line):
        with self.assertRaises(ProtocolSyntaxError) as caught:
            parse_protocol(text)
        self.assertEqual(caught.exception.line, line)


class FormatTest(unittest.TestCase):
    def test_document(self):
        self.assertEqual(format_protocol(parse_protocol(TEXT)), TEXT)
        self.assertEqual(parts(parse_protocol(TEXT)), (
            ("idle", "want", "crit"), "idle", (("lock", ("free", "held")),), (("box", ("ping", "pong")),),
            [
                ("ask", (("idle", "want"),), (), (), (), (), (), (("box", "ping"),)),
                ("take", (("want", "crit"),), (), (), (("lock", "free"),), (("lock", "held"),), (), ()),
                (
                    "flee", (("crit", "idle"), ("want", "gone")), (("idle", "want"),), ("idle", "idle"),
                    (), (), (), (),
                ),
            ],
            (((("crit", 2),), ()), ((("want", 1),), (("lock", "held"),))),
        ))

    def test_least_protocol(self):
        self.assertEqual(format_protocol(System(["a"], "a", [], [], [])), "states a\nstart a\n")
        self.assertEqual(parts(parse_protocol("states a\nstart a\n")), (("a",), "a", (), (), [], ()))

    def test_all_parts_of_a_rule(self):
        rule = Rule(
            "r", [("a", "b"), ("b", "gone")], everyone=[("b", "a"), ("a", "gone")], born=["b", "a"],
            conditions=[("w", "x"), ("v", "y")], effects=[("v", "x"), ("w", "y")],
            hears=[("q", "k"), ("p", "l")], sends=[("p", "l"), ("q", "m")],
        )
        variables, channels = [("v", ["x", "y"]), ("w", ["x", "y"])], [("p", ["l"]), ("q", ["k", "m"])]
        protocol = System(["a", "b"], "b", variables, [rule], [([], [("w", "y"), ("v", "x")])], channels=channels)
        text = (
            "states a b\nstart b\nshared v x y\nshared w x y\nchannel p l\nchannel q k m\n"
            "rule r: a -> b, b -> gone all b -> a, a -> gone new b, a if w = x, v = y set v = x, w = y"
            " hear q = k, p = l send p = l, q = m\n"
            "bad w = y, v = x\n"
        )
        self.assertEqual(format_protocol(protocol), text)
        self.assertEqual(parts(parse_protocol(text)), parts(protocol))

    def test_many_protocols(self):
        for seed in range(300):
            protocol = some_protocol(seed)
            text = format_protocol(protocol)
            again = parse_protocol(text)
            self.assertEqual(parts(again), parts(protocol))
            self.assertEqual(format_protocol(again), text)
            self.assertTrue(text.endswith("\n"))
            self.assertNotIn("  ", text)


class SpacesTest(TextCase):
    def test_where_they_may_stand(self):
        text = (
            "   states idle   want crit \n"
            " start    idle   \n"
            "shared  lock  free  held\n"
            "channel box ping pong    \n"
            "rule ask:idle->want send box=ping\n"
            "  rule   take  :  want  ->  crit   if   lock  =  free   set   lock  =  held  \n"
            "rule flee : crit->idle,want->gone all idle->want new idle,idle\n"
            "bad crit 2\n"
            "bad want 1,lock=held\n"
        )
        self.assertEqual(parts(parse_protocol(text)), parts(parse_protocol(TEXT)))
        self.assertEqual(parse_protocol(changed(8, "bad want  1  ,  lock = held")).bad, parse_protocol(TEXT).bad)

    def test_spaces_between_all_tokens(self):
        chooser = random.Random(3)
        for seed in range(100):
            text = format_protocol(some_protocol(seed))
            loose = "".join(
                character if character != " " else " " * chooser.randint(1, 3) for character in text
            ).replace("\n", "  \n ").replace(":", " : ").replace(",", " ,")
            loose = loose[:-1]
            self.assertEqual(format_protocol(parse_protocol(loose)), text)

    def test_where_they_may_not_stand(self):
        for number, line in (
            (0, "st ates idle want crit"), (4, "rule ask: idle - > want send box = ping"),
            (4, "rule ask: id le -> want"), (7, "bad cr it 2"), (7, "bad crit 2 2"), (7, "bad crit 1 2"),
        ):
            self.assert_wrong(changed(number, line), number)

    def test_where_one_is_needed(self):
        for number, line in (
            (0, "statesidle want crit"), (1, "startidle"), (4, "ruleask: idle -> want"), (7, "bad crit2"), (7, "badcrit 2"),
            (5, "rule take: want -> critif lock = free"), (5, "rule take: want -> crit iflock = free"),
        ):
            self.assert_wrong(changed(number, line), number)


class WrongTest(TextCase):
    def test_lines_that_are_wrong(self):
        wrong = {
            0: [
                "", " ", "states", "states idle, want, crit", "states idle want 2", "states idle want idle", "state idle",
                "states idle want gone", "states idle want all", "states a b c d e f idle", "states idle want Crit",
                "states: idle want crit", "start idle", "states idle want cr_it", "states idle want crit.",
            ],
            1: ["start", "start idle want", "start free", "start gone", "states idle", "shared idle", "start 1", "", "start ,"],
            2: [
                "shared", "shared lock", "shared lock free", "shared lock free free", "shared lock a b c d",
                "shared want free held", "shared lock free, held", "shared lock free all", "shared new free held",
                "shared lock = free held", "start idle", "states idle", "", "hared lock free held",
            ],
            3: [
                "channel", "channel box", "channel box ping ping", "channel box a b c d", "channel lock ping",
                "channel want ping", "channel box ping, pong", "channel send ping pong", "channel box ping lose",
                "channel box 1", "start idle",
            ],
            4: [
                "rule", "rule ask", "rule ask:", "rule ask idle -> want", "rule ask: idle", "rule ask: idle ->",
                "rule ask: idle -> free", "rule ask: free -> idle", "rule ask: gone -> idle", "rule ask: idle = want",
                "rule ask: idle -> want,", "rule ask: idle -> want idle -> want", "rule ask: , idle -> want",
                "rule ask: idle -> want, idle -> want, idle -> want, idle -> want", "rule all: idle -> want",
                "rule ask: idle -> want all", "rule ask: idle -> want all idle", "rule ask: idle -> want all idle -> free",
                "rule ask: idle -> want all idle -> want, idle -> crit", "rule ask: idle -> want all gone -> idle",
                "rule ask: idle -> want new", "rule ask: idle -> want new gone", "rule ask: idle -> want new idle idle",
                "rule ask: idle -> want new idle,", "rule ask: idle -> want new idle, idle, idle, idle",
                "rule ask: idle -> want if", "rule ask: idle -> want if lock", "rule ask: idle -> want if lock = ping",
                "rule ask: idle -> want if lock -> free", "rule ask: idle -> want if lock = free, lock = held",
                "rule ask: idle -> want if box = ping", "rule ask: idle -> want if lock = gone",
                "rule ask: idle -> want set", "rule ask: idle -> want set lock = 1", "rule ask: idle -> want set turn = free",
                "rule ask: idle -> want set lock = free, lock = free", "rule ask: idle -> want hear",
                "rule ask: idle -> want hear lock = free", "rule ask: idle -> want hear box = free",
                "rule ask: idle -> want hear box = ping, box = pong", "rule ask: idle -> want send",
                "rule ask: idle -> want send lock = free", "rule ask: idle -> want send box = ping, box = ping",
                "rule ask: idle -> want send box = ping hear box = ping", "rule ask: idle -> want lose box = ping",
                "rule ask: idle -> want new idle all idle -> want", "rule ask: idle -> want if lock = free new idle",
                "rule ask: idle -> want if lock = free if lock = free", "rule ask: idle -> want 2",
                "rule 1: idle -> want", "rule a b: idle -> want", "rule ask:: idle -> want", "rule ask: idle >- want",
                "rule ask: idle -> want ->", "rule ask: idle > want", "rule ask: idle - want", "rule ask; idle -> want",
                "rule ask: idle -> want send box = ping %", "rule ask: idle -> want;", "start idle", "states idle", "",
            ],
            5: ["rule ask: want -> crit", "shared turn a b", "channel mail a", "states a"],
            7: [
                "bad", "bad crit", "bad crit 0", "bad crit 10", "bad crit 22", "bad crit 01", "bad crit -1", "bad crit = 2",
                "bad free 1", "bad gone 1", "bad 2 crit", "bad crit 2,", "bad , crit 2", "bad crit 2 want 1", "bad lock 2",
                "bad lock held", "bad lock = ping", "bad box = ping", "bad lock = held = held", "bad crit 2, crit 1",
                "bad lock = held, crit 1, lock = free", "bad crit 2, lock = held, crit 2", "bad: crit 2", "bad crit two", "ba crit 2",
            ],
            8: ["rule go: idle -> want", "shared turn a b", "channel mail a", "start idle", "states idle", "", "x"],
        }
        for number, lines in wrong.items():
            for line in lines:
                with self.subTest(line=line):
                    self.assert_wrong(changed(number, line), number)

    def test_too_many_lines_of_a_kind(self):
        head = "states a\nstart a\n"
        for kinds, line in (
            ("shared v x y\nshared w x y\nshared u x y\n", 4), ("channel v x\nchannel w x\nchannel u x\n", 4),
            ("".join(f"rule r{number}: a -> a\n" for number in range(9)), 10), ("bad a 1\n" * 5, 6),
            ("shared v x y\nchannel v x\n", 3), ("shared v x y\nshared v x y\n", 3), ("start a\n", 2), ("states a\n", 2),
        ):
            self.assert_wrong(head + kinds, line)
            less = "".join(part + "\n" for part in kinds.split("\n")[:-2])
            parse_protocol(head + less)

    def test_first_wrong_line(self):
        self.assert_wrong(TEXT.replace("crit 2", "crit 0").replace("free set", "free free set"), 5)
        self.assert_wrong(TEXT.replace("held\n", "held held\n", 1) + "rest", 2)
        self.assert_wrong("bad a 1\n" + TEXT, 0)
        self.assert_wrong("start idle\nstates idle\n", 0)
        self.assert_wrong("states a b\nstart a\nrule go: a -> c\n", 2)

    def test_texts_that_end_too_early(self):
        for text, line in (
            ("", 0), ("states a", 0), (" ", 0), ("states a\n", 1), ("states a\nstart a", 1), ("states a\n  ", 1),
            ("?", 0), ("states a\nstart a\nbad a 1", 2),
        ):
            self.assert_wrong(text, line)
        self.assert_wrong(TEXT[:-1], 8)

    def test_texts_that_end_too_late(self):
        for rest in ("x", " ", "bad crit 1", "?", "rule"):
            self.assert_wrong(TEXT + rest, 9)
        for rest in ("\n", " \n", "x\n", "\n\n", "\n "):
            self.assert_wrong(TEXT + rest, 9)

    def test_wrong_lines_come_before_the_end(self):
        self.assert_wrong("states 1\n", 0)
        self.assert_wrong("states a\nstart b\nrest", 1)
        self.assert_wrong("\n", 0)
        self.assert_wrong("states a\n\n", 1)


class ReadTest(unittest.TestCase):
    def test_mixed_pairs_are_sorted(self):
        text = changed(8, "bad lock = held, want 1, idle 9")
        self.assertEqual(parse_protocol(text).bad[1], ((("want", 1), ("idle", 9)), (("lock", "held"),)))
        self.assertTrue(format_protocol(parse_protocol(text)).endswith("bad want 1, idle 9, lock = held\n"))
        text = "states a\nstart a\nshared v x y\nshared w x y\nbad w = y, a 3, v = x\n"
        self.assertEqual(parse_protocol(text).bad, (((("a", 3),), (("w", "y"), ("v", "x"))),))

    def test_numbers(self):
        for number in range(1, 10):
            self.assertEqual(parse_protocol(changed(7, f"bad crit {number}")).bad[0], ((("crit", number),), ()))

    def test_names_that_look_like_words_of_lines(self):
        text = (
            "states states start rule\nstart start\nshared shared bad bad2\nchannel channel all1 bad\n"
            "rule rule: rule -> states new start if shared = bad hear channel = bad\nbad rule 1, shared = bad\n"
        )
        protocol = parse_protocol(text)
        self.assertEqual((protocol.states, protocol.start), (("states", "start", "rule"), "start"))
        self.assertEqual(format_protocol(protocol), text)

    def test_names_with_digits(self):
        text = "states a1 a12 a\nstart a12\nrule r2d2: a1 -> a12, a -> a1\nbad a1 1, a12 2, a 3\n"
        self.assertEqual(format_protocol(parse_protocol(text)), text)

    def test_equal_results(self):
        self.assertEqual(parts(parse_protocol(TEXT)), parts(parse_protocol(TEXT)))


if __name__ == "__main__":
    unittest.main()
