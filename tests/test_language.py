"""The form of the package's files: the rules that can be seen in the files themselves."""

import ast
import re
import unittest
from pathlib import Path

PACKAGE = Path(__file__).resolve().parent.parent / "allplayall"
FILES = sorted(PACKAGE.glob("*.py"))

STATEMENTS = (ast.Assign, ast.AugAssign, ast.If, ast.While, ast.For, ast.Return, ast.Break, ast.Continue, ast.Pass,
              ast.Expr, ast.FunctionDef, ast.ClassDef, ast.ImportFrom)
EXPRESSIONS = (ast.BoolOp, ast.BinOp, ast.UnaryOp, ast.Lambda, ast.IfExp, ast.Dict, ast.ListComp, ast.Compare, ast.Call,
               ast.Constant, ast.Attribute, ast.Subscript, ast.Name, ast.List, ast.Tuple, ast.Slice)
OPERATORS = (ast.And, ast.Or, ast.Add, ast.Sub, ast.Mult, ast.FloorDiv, ast.Mod, ast.Not, ast.USub, ast.Eq, ast.NotEq,
             ast.Lt, ast.LtE, ast.Gt, ast.GtE, ast.In, ast.NotIn, ast.Is, ast.IsNot)
OTHERS = (ast.Module, ast.Load, ast.Store, ast.arguments, ast.arg, ast.keyword, ast.alias, ast.comprehension)
BUILT_IN = "len range enumerate sum min max any all sorted list tuple set".split()
OWN_METHODS = "append count extend index insert pop".split()
NO_WORDS = ("type typing typing_extensions enum Enum IntEnum StrEnum Flag IntFlag Generic Protocol ABC ABCMeta "
            "namedtuple NamedTuple TypedDict TYPE_CHECKING abstractmethod").split()
WALKED = ("zip", "enumerate", "reversed", "range")


def nodes(tree, *kinds):
    return [node for node in ast.walk(tree) if isinstance(node, kinds)]


def bound_names(tree):
    names = [node.id for node in nodes(tree, ast.Name) if isinstance(node.ctx, ast.Store)]
    names += [node.arg for node in nodes(tree, ast.arg)]
    names += [node.name for node in nodes(tree, ast.FunctionDef, ast.ClassDef)]
    return names + [alias.name for node in nodes(tree, ast.ImportFrom) for alias in node.names]


def imports_of(tree):
    return [(node.module, alias.name) for node in nodes(tree, ast.ImportFrom) for alias in node.names]


class Language(unittest.TestCase):
    def each(self):
        self.assertGreater(len(FILES), 5)
        for path in FILES:
            with self.subTest(file=path.name):
                text = path.read_text(encoding="utf-8")
                yield path, text, ast.parse(text)

    def test_files(self):
        there = sorted(path.name for path in PACKAGE.iterdir() if path.name != "__pycache__")
        self.assertEqual(there, [path.name for path in FILES])
        for name in there:
            self.assertRegex(name, r"^(__init__|[a-z][a-z0-9_]*)\.py$")
        self.assertIn("__init__.py", there)

    def test_signs_and_sizes(self):
        for path, text, tree in self.each():
            self.assertRegex(text, r"\A[ -~\n]*\Z")
            lines = text.split("\n")
            self.assertLessEqual(len(lines), 400)
            self.assertLessEqual(max(len(line) for line in lines), 120)
            for node in nodes(tree, ast.FunctionDef):
                self.assertLessEqual(node.end_lineno - node.lineno + 1, 40, node.name)

    def test_words(self):
        for path, text, tree in self.each():
            words = set(re.findall(r"\w+", text))
            self.assertEqual(words & set(NO_WORDS), set())
            self.assertNotRegex(text, "dataclass|overload|contextmanager")

    def test_statements_and_expressions(self):
        for path, text, tree in self.each():
            for node in ast.walk(tree):
                self.assertIsInstance(node, STATEMENTS + EXPRESSIONS + OPERATORS + OTHERS)
            for node in nodes(tree, ast.Assign):
                self.assertEqual(len(node.targets), 1)
                self.assertNotIsInstance(node.targets[0], (ast.Tuple, ast.List))
            for node in nodes(tree, ast.For, ast.While):
                self.assertEqual(node.orelse, [])
            for node in nodes(tree, ast.ListComp):
                self.assertEqual(len(node.generators), 1)
                self.assertLessEqual(len(node.generators[0].ifs), 1)
            for node in nodes(tree, ast.Constant):
                self.assertIn(type(node.value), (int, str, bool, type(None)))
            for node in nodes(tree, ast.FunctionDef):
                self.assertEqual(node.decorator_list, [])
                self.assertIsNone(node.args.vararg or node.args.kwarg or node.returns)
            for node in nodes(tree, ast.Compare):
                if any(isinstance(operator, (ast.Is, ast.IsNot)) for operator in node.ops):
                    self.assertIsInstance(node.comparators[0], ast.Constant)

    def test_names(self):
        for path, text, tree in self.each():
            top = bound_names(tree)
            for name in top:
                if name != "__init__":
                    self.assertRegex(name, r"^[A-Za-z][A-Za-z0-9_]*$")
                    self.assertNotIn(name, dir(__builtins__) if not isinstance(__builtins__, dict) else __builtins__)
            for node in nodes(tree, ast.Name):
                self.assertTrue(node.id in top or node.id in BUILT_IN, node.id)

    def test_each_name_once_at_the_top(self):
        for path, text, tree in self.each():
            names = []
            for node in tree.body:
                if isinstance(node, ast.Assign):
                    names.append(node.targets[0].id)
                elif isinstance(node, ast.ImportFrom):
                    names += [alias.name for alias in node.names]
                elif isinstance(node, (ast.FunctionDef, ast.ClassDef)):
                    names.append(node.name)
                else:
                    self.assertIsInstance(node, ast.Expr)
                    self.assertIsInstance(node.value, ast.Constant)
            self.assertEqual(len(names), len(set(names)))

    def test_no_local_is_called_like_something_of_the_top(self):
        for path, text, tree in self.each():
            top = [name for module, name in imports_of(tree)] + [node.name for node in nodes(tree, ast.ClassDef)]
            top += [node.name for node in tree.body if isinstance(node, ast.FunctionDef)]
            for node in nodes(tree, ast.FunctionDef):
                inner = [found.id for found in nodes(node, ast.Name) if isinstance(found.ctx, ast.Store)]
                inner += [found.arg for found in nodes(node, ast.arg)]
                self.assertEqual(set(inner) & set(top), set(), node.name)

    def test_methods(self):
        own = set()
        for path, text, tree in self.each():
            own |= {node.attr for node in nodes(tree, ast.Attribute) if isinstance(node.ctx, ast.Store)}
            for node in nodes(tree, ast.ClassDef):
                own |= {found.name for found in nodes(node, ast.FunctionDef)}
        for path, text, tree in self.each():
            for node in nodes(tree, ast.Attribute):
                self.assertIn(node.attr, sorted(own) + OWN_METHODS)
        for value in ("", 0, [], {}, set(), b""):
            self.assertEqual((own - {"__init__"}) & set(dir(value)), set())

    def test_walked_at_once(self):
        for path, text, tree in self.each():
            kept = [node for node in nodes(tree, ast.Call)
                    if isinstance(node.func, ast.Name) and node.func.id in WALKED]
            walked = [node.iter for node in nodes(tree, ast.For, ast.comprehension)]
            walked += [node.args[0] for node in nodes(tree, ast.Call)
                       if isinstance(node.func, ast.Name) and node.func.id in ("list", "tuple", "sorted", "sum")]
            for node in kept:
                self.assertTrue(any(node is other for other in walked), ast.dump(node))

    def test_sets_are_made_and_told_on_the_spot(self):
        for path, text, tree in self.each():
            called = [node for node in nodes(tree, ast.Call) if isinstance(node.func, ast.Name)]
            inner = [node.args[0] for node in called if node.func.id in ("sorted", "len") and node.keywords == []]
            for node in called:
                if node.func.id == "set":
                    self.assertTrue(any(node is other for other in inner), ast.dump(node))

    def test_imports(self):
        defined = {}
        drawn = {}
        for path, text, tree in self.each():
            module = f"allplayall.{path.stem}"
            defined[module] = [name for name in bound_names(ast.Module(
                [node for node in tree.body if not isinstance(node, ast.ImportFrom)], []))]
            drawn[module] = imports_of(tree)
            if path.stem == "__init__":
                self.assertEqual(drawn[module], [])
        for module, names in drawn.items():
            for source, name in names:
                self.assertIn(name, defined[source])
        for module in drawn:
            reached = set()
            found = {source for source, name in drawn[module]}
            while found - reached:
                reached |= found
                found = {source for other in reached for source, name in drawn[other]}
            self.assertNotIn(module, reached)


if __name__ == "__main__":
    unittest.main()
