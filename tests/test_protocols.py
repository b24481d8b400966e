import unittest

from covernets.errors import InvalidProtocol
from covernets.protocols import Rule, System, is_name
from helpers import some_protocol

RESERVED = ["all", "new", "if", "set", "hear", "send", "lose", "gone"]


def system(**changes):
    """A protocol with something of each kind, but with the changes."""
    parts = {
        "states": ["idle", "want", "crit"],
        "start": "idle",
        "variables": [("lock", ["free", "held"]), ("turn", ["one", "two", "three"])],
        "rules": [Rule("ask", [("idle", "want")]), Rule("take", [("want", "crit")])],
        "bad": [([("crit", 2)], [("lock", "held")])],
        "channels": [("box", ["ping", "pong"]), ("mail", ["ping"])],
    }
    parts.update(changes)
    channels = parts.pop("channels")
    return System(*parts.values(), channels=channels)


def names(many):
    return [f"n{number}" for number in range(many)]


class NameTest(unittest.TestCase):
    def test_names(self):
        for word in ("a", "z", "a0", "crit", "x9y8z", "allow", "new1", "states", "start", "rule", "bad", "shared", "go"):
            self.assertIs(is_name(word), True, word)

    def test_other_words(self):
        for word in ("", "0", "9a", "A", "aB", "a_b", "a b", " a", "a ", "a-b", "_", "a\n", "a="):
            self.assertIs(is_name(word), False, word)
        for word in RESERVED:
            self.assertIs(is_name(word), False, word)
            self.assertIs(is_name(word + "x"), True, word)


class RuleTest(unittest.TestCase):
    def test_attributes_are_copies(self):
        passed = {
            "everyone": [["a", "b"], ("b", "gone")], "born": ["a", "a"], "conditions": [["v", "x"]],
            "effects": [["v", "y"]], "hears": [["c", "p"]], "sends": [["c", "q"]],
        }
        actors = [["a", "gone"], ("a", "b")]
        rule = Rule("go", actors, **passed)
        actors[0][0] = "z"
        actors.append(("z", "z"))
        for part in passed.values():
            part.append(("z", "z"))
        for word in ("everyone", "conditions", "effects", "hears", "sends"):
            passed[word][0][0] = "z"
        self.assertEqual((rule.name, rule.actors), ("go", (("a", "gone"), ("a", "b"))))
        self.assertEqual(rule.everyone, (("a", "b"), ("b", "gone")))
        self.assertEqual(rule.born, ("a", "a"))
        self.assertEqual((rule.conditions, rule.effects), ((("v", "x"),), (("v", "y"),)))
        self.assertEqual((rule.hears, rule.sends), ((("c", "p"),), (("c", "q"),)))

    def test_parts_that_are_left_out(self):
        rule = Rule("go", ())
        for part in (rule.actors, rule.everyone, rule.born, rule.conditions, rule.effects, rule.hears, rule.sends):
            self.assertEqual(part, ())

    def test_parts_are_passed_by_keyword(self):
        with self.assertRaises(TypeError):
            Rule("go", (), ())
        with self.assertRaises(TypeError):
            System(["a"], "a", [], [], [], [])


class SystemTest(unittest.TestCase):
    def refused(self, **changes):
        with self.assertRaises(InvalidProtocol):
            system(**changes)

    def test_attributes_are_copies(self):
        states, letters, values, rules = ["a", "b"], ["p", "q"], ["x", "y"], [Rule("go", [("a", "b")])]
        variables, channels, bad = [["v", values]], [["c", letters]], [[[["a", 1]], [["v", "x"]]]]
        protocol = System(states, "b", variables, rules, bad, channels=channels)
        for changed in (states, letters, values, rules, variables, channels, bad):
            changed.append("more")
        bad[0][0][0][0] = "b"
        bad[0][1].append("more")
        variables[0][0] = "w"
        self.assertEqual((protocol.states, protocol.start), (("a", "b"), "b"))
        self.assertEqual(protocol.variables, (("v", ("x", "y")),))
        self.assertEqual(protocol.channels, (("c", ("p", "q")),))
        self.assertEqual([rule.name for rule in protocol.rules], ["go"])
        self.assertIsInstance(protocol.rules, tuple)
        self.assertEqual(protocol.bad, (((("a", 1),), (("v", "x"),)),))

    def test_least_protocol(self):
        protocol = System(["a"], "a", [], [], [])
        self.assertEqual((protocol.states, protocol.variables, protocol.channels), (("a",), (), ()))
        self.assertEqual((protocol.rules, protocol.bad), ((), ()))

    def test_states(self):
        self.assertEqual(len(system(states=["idle", "want", "crit", "a", "b", "c"]).states), 6)
        self.refused(states=["idle", "want", "crit", "a", "b", "c", "d"])
        self.refused(states=["idle", "want", "crit", "want"])
        self.refused(states=[], rules=[], bad=[])
        for word in RESERVED + ["", "Idle", "1", "a-b"]:
            self.refused(states=["idle", "want", "crit", word])
        self.refused(start="free")
        self.refused(start="gone")

    def test_names_of_variables(self):
        values = ["x", "y"]
        self.assertEqual(len(system(variables=[("lock", ["free", "held"])]).variables), 1)
        self.refused(variables=[("lock", ["free", "held"]), ("b", values), ("c", values)])
        self.refused(variables=[("lock", ["free", "held"]), ("lock", values)])
        self.refused(variables=[("lock", ["free", "held"]), ("want", values)])
        self.refused(variables=[("lock", ["free", "held"]), ("box", values)])
        for word in RESERVED + ["", "B"]:
            self.refused(variables=[("lock", ["free", "held"]), (word, values)])
        self.refused(variables=[("lock", ["free", "held"]), ("b", values, values)])
        self.refused(variables=[("lock", ["free", "held"]), ("b",)])

    def test_values(self):
        for values in (["free", "held"], ["held", "free", "lock"], ["held", "idle"], ["box", "held", "ping"]):
            self.assertEqual(system(variables=[("lock", values)]).variables, (("lock", tuple(values)),))
        for values in ([], ["held"], ["held", "a", "b", "c"], ["held", "held"], ["held", "a", "a"]):
            self.refused(variables=[("lock", values)])
        for word in RESERVED + ["", "1"]:
            self.refused(variables=[("lock", ["held", word])])

    def test_names_of_channels(self):
        self.assertEqual(system(channels=[]).channels, ())
        self.refused(channels=[("a", ["x"]), ("b", ["x"]), ("c", ["x"])])
        for word in ["a", "idle", "lock", "", "B"] + RESERVED:
            self.refused(channels=[("a", ["x"]), (word, ["x"])])
        self.refused(channels=[("a", ["x"], ["y"])])
        self.refused(channels=[("a",)])

    def test_letters(self):
        for letters in (["x"], ["x", "y"], ["x", "y", "z"], ["idle", "lock", "a"]):
            self.assertEqual(system(channels=[("a", letters)]).channels, (("a", tuple(letters)),))
        for letters in ([], ["x", "y", "z", "w"], ["x", "x"], ["x", "y", "x"]):
            self.refused(channels=[("a", letters)])
        for word in RESERVED + ["", "1"]:
            self.refused(channels=[("a", [word])])

    def test_rules(self):
        actors = [("idle", "want")]
        self.assertEqual(len(system(rules=[Rule(name, actors) for name in names(8)]).rules), 8)
        self.refused(rules=[Rule(name, actors) for name in names(9)])
        self.refused(rules=[Rule("a", actors), Rule("b", actors), Rule("a", actors)])
        for word in RESERVED + ["", "A"]:
            self.refused(rules=[Rule(word, actors)])
        self.assertEqual(system(rules=[Rule("idle", actors), Rule("lock", actors)]).rules[0].name, "idle")

    def test_actors(self):
        for many in (1, 2, 3):
            self.assertEqual(len(system(rules=[Rule("a", [("idle", "gone")] * many)]).rules[0].actors), many)
        self.refused(rules=[Rule("a", [])])
        self.refused(rules=[Rule("a", [("idle", "want")] * 4)])
        for pair in (("free", "idle"), ("idle", "free"), ("gone", "idle"), ("idle", "idle", "idle"), ("idle",), ()):
            self.refused(rules=[Rule("a", [("idle", "want"), pair])])

    def test_everyone(self):
        actors = [("idle", "want")]
        pairs = [("idle", "gone"), ("want", "want"), ("crit", "idle")]
        self.assertEqual(system(rules=[Rule("a", actors, everyone=pairs)]).rules[0].everyone, tuple(pairs))
        self.refused(rules=[Rule("a", actors, everyone=[("idle", "want"), ("idle", "crit")])])
        self.refused(rules=[Rule("a", actors, everyone=[("idle", "want"), ("crit", "want"), ("idle", "want")])])
        for pair in (("free", "idle"), ("idle", "free"), ("gone", "idle"), ("idle", "idle", "idle"), ("idle",)):
            self.refused(rules=[Rule("a", actors, everyone=[pair])])

    def test_born(self):
        actors = [("idle", "want")]
        self.assertEqual(len(system(rules=[Rule("a", actors, born=["idle"] * 3)]).rules[0].born), 3)
        self.refused(rules=[Rule("a", actors, born=["idle"] * 4)])
        self.refused(rules=[Rule("a", actors, born=["idle", "gone"])])
        self.refused(rules=[Rule("a", actors, born=["free"])])

    def test_conditions_and_effects(self):
        actors = [("idle", "want")]
        pairs = [("turn", "three"), ("lock", "held")]
        for word in ("conditions", "effects"):
            self.assertEqual(getattr(system(rules=[Rule("a", actors, **{word: pairs})]).rules[0], word), tuple(pairs))
            for pair in (("lock", "one"), ("turn", "free"), ("box", "ping"), ("idle", "free"), ("lock",), ("lock", "free", "free")):
                self.refused(rules=[Rule("a", actors, **{word: [pair]})])
            self.refused(rules=[Rule("a", actors, **{word: [("lock", "free"), ("lock", "held")]})])
            self.refused(rules=[Rule("a", actors, **{word: [("lock", "free"), ("turn", "one"), ("lock", "free")]})])

    def test_hears_and_sends(self):
        actors = [("idle", "want")]
        pairs = [("mail", "ping"), ("box", "pong")]
        for word in ("hears", "sends"):
            self.assertEqual(getattr(system(rules=[Rule("a", actors, **{word: pairs})]).rules[0], word), tuple(pairs))
            for pair in (("mail", "pong"), ("lock", "free"), ("idle", "ping"), ("mail",), ("mail", "ping", "ping")):
                self.refused(rules=[Rule("a", actors, **{word: [pair]})])
            self.refused(rules=[Rule("a", actors, **{word: [("box", "ping"), ("box", "pong")]})])

    def test_bad_patterns(self):
        pattern = ([("idle", 1)], [])
        self.assertEqual(len(system(bad=[pattern] * 4).bad), 4)
        self.refused(bad=[pattern] * 5)
        self.refused(bad=[([], [])])
        self.refused(bad=[([("idle", 1)],)])
        self.refused(bad=[([("idle", 1)], [], [])])
        self.assertEqual(system(bad=[([], [("lock", "held")])]).bad, (((), (("lock", "held"),)),))

    def test_counts_and_values_of_patterns(self):
        for number in (1, 9):
            self.assertEqual(system(bad=[([("idle", number)], [])]).bad, (((("idle", number),), ()),))
        for number in (0, 10, -1):
            self.refused(bad=[([("idle", number)], [])])
        self.refused(bad=[([("idle", 1), ("idle", 2)], [])])
        for pair in (("gone", 1), ("lock", 1), ("idle",), ("idle", 1, 1)):
            self.refused(bad=[([pair], [])])
        for pair in (("lock", "one"), ("box", "ping"), ("idle", "free"), ("lock",), ("lock", "free", "free")):
            self.refused(bad=[([], [pair])])
        self.refused(bad=[([], [("lock", "free"), ("lock", "held")])])

    def test_greatest_numbers_of_all(self):
        protocol = system(
            states=["idle", "want", "crit", "a", "b", "c"],
            variables=[("lock", ["free", "held", "x"]), ("turn", ["one", "two", "three"])],
            channels=[("box", ["ping", "pong", "x"]), ("mail", ["ping", "pong", "x"])],
            rules=[Rule(
                name, [("a", "gone")] * 3, everyone=[(state, "b") for state in ("idle", "want", "crit", "a", "b", "c")],
                born=["c"] * 3, conditions=[("lock", "x"), ("turn", "one")], effects=[("turn", "one"), ("lock", "x")],
                hears=[("mail", "x"), ("box", "x")], sends=[("mail", "x"), ("box", "x")],
            ) for name in names(8)],
            bad=[([(state, 9) for state in ("idle", "want", "crit", "a", "b", "c")], [("lock", "x"), ("turn", "one")])] * 4,
        )
        self.assertEqual((len(protocol.rules), len(protocol.bad), len(protocol.bad[0][0])), (8, 4, 6))

    def test_many_protocols_are_taken(self):
        for seed in range(100):
            first, second = some_protocol(seed), some_protocol(seed)
            self.assertEqual((first.states, first.bad, first.channels), (second.states, second.bad, second.channels))


if __name__ == "__main__":
    unittest.main()
