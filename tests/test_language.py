"""Rules of the language that can be told from the text of the package alone."""

import ast
import builtins
import os
import unittest

PACKAGE = os.path.join(os.path.dirname(os.path.dirname(os.path.abspath(__file__))), "covernets")
LIBRARY = {"heapq": {"heappush", "heappop"}, "math": {"comb", "gcd", "lcm"}, "itertools": {"product"}}
BUILTINS = set(
    "len range enumerate zip min max sum abs sorted reversed int str bool list tuple dict set isinstance "
    "any all divmod ValueError".split()
)
ALL_BUILTINS = {name for name in dir(builtins) if not name.startswith("_")}
WORDS_TO_AVOID = {"register", "mro", "elements", "open", "input", "law", "compile", "eval", "exec", "exit", "type"}
METHODS = set("append extend get index count items keys values pop setdefault insert join copy update sort".split())


def modules():
    for name in sorted(os.listdir(PACKAGE)):
        if name.endswith(".py"):
            with open(os.path.join(PACKAGE, name), encoding="utf-8") as file:
                yield name, file.read()


def bound_names(tree):
    for node in ast.walk(tree):
        if isinstance(node, ast.Name) and isinstance(node.ctx, ast.Store):
            yield node.id
        elif isinstance(node, ast.arg):
            yield node.arg
        elif isinstance(node, (ast.FunctionDef, ast.ClassDef)):
            yield node.name


class LanguageTest(unittest.TestCase):
    def test_files(self):
        for name in os.listdir(PACKAGE):
            self.assertTrue(name.endswith(".py") or name == "__pycache__", name)

    def test_lines_and_characters(self):
        for name, text in modules():
            lines = text.split("\n")
            self.assertLessEqual(len(lines), 399, name)
            for number, line in enumerate(lines, 1):
                self.assertLessEqual(len(line), 120, (name, number))
                self.assertTrue(all(" " <= character <= "~" for character in line), (name, number))

    def test_functions_are_short(self):
        for name, text in modules():
            for node in ast.walk(ast.parse(text)):
                if isinstance(node, ast.FunctionDef):
                    self.assertLessEqual(node.end_lineno - node.lineno + 1, 40, (name, node.name))
                    self.assertFalse(node.decorator_list, (name, node.name))
                    self.assertTrue(ast.get_docstring(node) or node.name == "__init__", (name, node.name))

    def test_imports(self):
        for name, text in modules():
            for node in ast.walk(ast.parse(text)):
                self.assertNotIsInstance(node, ast.Import, name)
                if isinstance(node, ast.ImportFrom):
                    self.assertEqual(node.level, 0, name)
                    for alias in node.names:
                        self.assertIsNone(alias.asname, (name, alias.name))
                        if not node.module.startswith("covernets."):
                            self.assertIn(alias.name, LIBRARY[node.module], name)

    def test_names(self):
        for name, text in modules():
            tree = ast.parse(text)
            imported = {
                alias.name for node in ast.walk(tree) if isinstance(node, ast.ImportFrom) for alias in node.names
            }
            classes = {node.name for node in ast.walk(tree) if isinstance(node, ast.ClassDef)}
            for node in ast.walk(tree):
                if isinstance(node, ast.Name) and isinstance(node.ctx, ast.Load) and node.id in ALL_BUILTINS:
                    self.assertIn(node.id, BUILTINS, name)
                if isinstance(node, ast.Name) and isinstance(node.ctx, ast.Load):
                    self.assertNotEqual(node.id, "_", name)
            for bound in bound_names(tree):
                self.assertNotIn(bound, ALL_BUILTINS | WORDS_TO_AVOID | imported, name)
            stored = {node.id for node in ast.walk(tree) if isinstance(node, ast.Name) and isinstance(node.ctx, ast.Store)}
            self.assertFalse(stored & classes, name)

    def test_statements_and_expressions(self):
        refused = (
            ast.Global, ast.AsyncFunctionDef, ast.Lambda, ast.JoinedStr, ast.Set, ast.SetComp, ast.With, ast.Yield,
        )
        for name, text in modules():
            for node in ast.walk(ast.parse(text)):
                if not isinstance(node, ast.JoinedStr):
                    self.assertNotIsInstance(node, refused, name)
                self.assertFalse(isinstance(node, ast.BinOp) and isinstance(node.op, (ast.Div, ast.Pow)), name)
                self.assertFalse(isinstance(node, ast.Constant) and isinstance(node.value, float), name)
                self.assertFalse(isinstance(node, ast.Constant) and "%" in str(node.value), name)

    def test_interface_is_defined_where_it_is_listed(self):
        expected = {
            "closed.py": "covers basis_of in_closed meet closed_within",
            "limits.py": "admits within frame_of in_frame frame_meet frame_within",
            "complements.py": "complement_closed complement_frame",
            "nets.py": "Net is_plain enabled fire",
            "runs.py": "run_from need effect fire_parts spread",
            "backward.py": "step_back cover_basis way",
            "decisions.py": "Decision decide judge_barrier judge_run",
            "forward.py": "fire_limit limit_set judge_limits bounds",
            "growth.py": "growth longest_reach",
            "invariants.py": "invariant_basis minimal_semiflows",
            "balance.py": "balance judge_balance",
            "siphons.py": "is_siphon is_trap largest_siphon largest_trap minimal_siphons",
            "graphs.py": "Graph explore stuck live homes repeatable route",
            "reduction.py": "Reduced reduce_net original_run",
            "configs.py": "is_within config_covers config_basis in_config_set",
            "mail.py": "MailNet can_take take_mail",
            "mailcover.py": "mail_step_back mail_basis mail_way MailDecision decide_mail judge_mail",
            "protocols.py": "Rule System is_name",
            "parties.py": "start_state is_legal take_step play is_bad",
            "language.py": "format_protocol parse_protocol",
            "compiler.py": "compile_protocol config_of schedule_of",
            "verdicts.py": "Verdict decide_protocol",
            "blame.py": "restricted blames repairs",
            "papers.py": "paper_of audit",
            "forever.py": "forever always_ends loop_for",
            "agreement.py": "agreement",
            "shortest.py": "distance shortest_way",
            "needs.py": "needs",
            "linear.py": "linear_paper judge_linear",
            "nettext.py": "format_net parse_net",
            "watch.py": "Watch",
        }
        found = dict(modules())
        for name, words in expected.items():
            defined = {node.name for node in ast.parse(found[name]).body if hasattr(node, "name")}
            self.assertLessEqual(set(words.split()), defined, name)

    def test_methods_of_the_interface_stand_in_the_class(self):
        watch = [node for node in ast.parse(dict(modules())["watch.py"]).body if isinstance(node, ast.ClassDef)][0]
        methods = {node.name for node in watch.body if isinstance(node, ast.FunctionDef)}
        self.assertLessEqual({"__init__", "take", "danger", "lapse"}, methods)


if __name__ == "__main__":
    unittest.main()
