"""The form of the package: the rules of the language that can be read off the files."""

import ast
import builtins
import pathlib
import re
import unittest

PACKAGE = pathlib.Path(__file__).resolve().parent.parent / "leverpulls"
STATEMENTS = (ast.FunctionDef, ast.Assign, ast.AugAssign, ast.If, ast.While, ast.For, ast.Return, ast.Break,
              ast.Continue, ast.Pass, ast.Expr)
UNUSED = (ast.Set, ast.SetComp, ast.DictComp, ast.GeneratorExp, ast.NamedExpr, ast.Starred, ast.Div)
OWN_NAMES = ("len", "range", "enumerate", "zip", "min", "max", "sum", "abs", "sorted", "reversed", "list", "tuple",
             "any", "all", "divmod")
METHODS = ("append", "extend", "copy", "index", "count", "get", "items", "keys", "values", "pop", "insert")
WORDS = re.compile(r"\b(type|typing|enum|Enum|Flag|Generic|Protocol|ABC|namedtuple|NamedTuple)\b|dataclass|overload")


class Form(unittest.TestCase):
    def setUp(self):
        self.files = sorted(PACKAGE.glob("*.py"))
        self.trees = {path.name: ast.parse(path.read_text(encoding="utf-8")) for path in self.files}

    def nodes(self):
        return [node for tree in self.trees.values() for node in ast.walk(tree)]

    def test_only_plain_files_lie_in_the_package(self):
        others = [path.name for path in PACKAGE.iterdir() if path not in self.files and path.name != "__pycache__"]
        self.assertEqual(others, [])
        self.assertIn("__init__.py", self.trees)
        self.assertIn("machines.py", self.trees)

    def test_signs_sizes_and_words(self):
        for path in self.files:
            text = path.read_bytes().decode("ascii")
            self.assertTrue(all(sign == "\n" or " " <= sign <= "~" for sign in text), path.name)
            self.assertLessEqual(len(text.splitlines()), 400)
            self.assertLessEqual(max(len(line) for line in text.splitlines()), 120)
            self.assertIsNone(WORDS.search(text), path.name)

    def test_functions_are_small_and_plain(self):
        for node in self.nodes():
            if isinstance(node, ast.FunctionDef):
                self.assertLessEqual(node.end_lineno - node.lineno + 1, 40, node.name)
                self.assertEqual(node.decorator_list, [])
                self.assertIsNone(node.args.vararg or node.args.kwarg)

    def test_statements_and_expressions(self):
        for node in self.nodes():
            if isinstance(node, ast.stmt):
                self.assertIsInstance(node, STATEMENTS, ast.dump(node))
            self.assertNotIsInstance(node, UNUSED, ast.dump(node))
            if isinstance(node, ast.Constant):
                self.assertNotIsInstance(node.value, (float, complex, bytes))
            if isinstance(node, (ast.For, ast.While)):
                self.assertEqual(node.orelse, [])

    def test_it_calls_only_its_own_and_the_listed_names(self):
        defined = [node.name for node in self.nodes() if isinstance(node, ast.FunctionDef)]
        self.assertEqual(len(defined), len(set(defined)))
        for node in self.nodes():
            if isinstance(node, ast.Call) and isinstance(node.func, ast.Name):
                self.assertIn(node.func.id, tuple(defined) + OWN_NAMES)
            if isinstance(node, ast.Attribute):
                self.assertIn(node.attr, METHODS)

    def test_no_name_is_one_of_pythons_own_or_begins_with_an_underscore(self):
        for node in self.nodes():
            names = []
            if isinstance(node, ast.Name) and isinstance(node.ctx, ast.Store):
                names.append(node.id)
            if isinstance(node, (ast.FunctionDef, ast.ClassDef)):
                names.append(node.name)
            if isinstance(node, ast.arg):
                names.append(node.arg)
            for name in names:
                self.assertFalse(hasattr(builtins, name) or name.startswith("_"), name)

    def test_what_is_drawn_up_is_walked_at_once(self):
        walkers = ("range", "zip", "enumerate", "reversed")
        for node in self.nodes():
            if isinstance(node, ast.Assign) and isinstance(node.value, ast.Call):
                self.assertFalse(isinstance(node.value.func, ast.Name) and node.value.func.id in walkers)

    def test_assignments_have_one_target(self):
        for node in self.nodes():
            if isinstance(node, ast.Assign):
                self.assertEqual(len(node.targets), 1)
                self.assertIsInstance(node.targets[0], (ast.Name, ast.Subscript, ast.Attribute))

    def test_no_powers_and_no_percent_sign_in_texts(self):
        for node in self.nodes():
            self.assertNotIsInstance(node, ast.Pow)
            if isinstance(node, ast.Constant) and isinstance(node.value, str):
                self.assertNotIn("%", node.value)

    def test_nothing_is_kept_at_the_top_of_a_file(self):
        for tree in self.trees.values():
            for node in tree.body:
                if isinstance(node, ast.Assign):
                    self.assertIsInstance(ast.literal_eval(node.value), (int, str))


if __name__ == "__main__":
    unittest.main()
