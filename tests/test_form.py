"""The package's files keep to the part of Python that is allowed, as far as a test can see it."""

import ast
import pathlib
import re
import unittest

FOLDER = pathlib.Path(__file__).resolve().parent.parent / "whynonedesk"

ALLOWED_NODES = (
    ast.Module, ast.ImportFrom, ast.alias, ast.FunctionDef, ast.ClassDef, ast.arguments, ast.arg, ast.Lambda,
    ast.Assign, ast.AugAssign, ast.If, ast.While, ast.For, ast.Return, ast.Break, ast.Continue, ast.Pass, ast.Raise,
    ast.Try, ast.ExceptHandler, ast.Expr, ast.Constant, ast.JoinedStr, ast.FormattedValue, ast.List, ast.Tuple,
    ast.Dict, ast.Set, ast.ListComp, ast.comprehension, ast.BinOp, ast.UnaryOp, ast.BoolOp, ast.Compare, ast.IfExp,
    ast.Call, ast.keyword, ast.Attribute, ast.Subscript, ast.Slice, ast.Name, ast.expr_context, ast.operator,
    ast.unaryop, ast.boolop, ast.cmpop,
)
FORBIDDEN_NODES = (ast.Div, ast.MatMult, ast.UAdd)
BUILTINS = set(
    "len range enumerate zip min max sum abs sorted reversed int str bool list tuple dict set frozenset isinstance"
    " ord repr any all divmod Exception ValueError TypeError KeyError IndexError LookupError ZeroDivisionError"
    " ArithmeticError OverflowError RuntimeError NotImplementedError AttributeError StopIteration".split())
METHODS = set(
    "append clear copy count endswith extend find get index insert isalnum isalpha isdigit islower isspace isupper"
    " items join keys ljust lower lstrip partition pop remove replace reverse rfind rjust rpartition rsplit rstrip"
    " setdefault split splitlines startswith strip update upper values zfill bit_length".split())
SPECIAL_METHODS = {"__init__", "__eq__", "__repr__", "__str__", "__len__"}
WORDS = set(
    "type typing typing_extensions enum Enum IntEnum StrEnum Flag IntFlag Generic Protocol ABC ABCMeta namedtuple"
    " NamedTuple TypedDict TYPE_CHECKING abstractmethod".split())
PARTS = ("dataclass", "overload", "contextmanager")
VALUES_OF_PYTHON = set(
    name for kind in (str, int, list, dict, set, frozenset, bytes, tuple) for name in dir(kind))


def package_files():
    return sorted(FOLDER.rglob("*.py"))


def nodes(tree, *kinds):
    return [node for node in ast.walk(tree) if isinstance(node, kinds)]


def stored_names(tree):
    names = [node.id for node in nodes(tree, ast.Name) if isinstance(node.ctx, ast.Store)]
    return names + [node.arg for node in nodes(tree, ast.arg)]


def own_methods(trees):
    return {method.name for tree in trees for one in nodes(tree, ast.ClassDef)
            for method in one.body if isinstance(method, ast.FunctionDef)}


class Form(unittest.TestCase):
    def setUp(self):
        self.texts = {path: path.read_text(encoding="utf-8") for path in package_files()}
        self.trees = {path: ast.parse(text) for path, text in self.texts.items()}
        self.assertIn(FOLDER / "house.py", self.trees)

    def test_files_and_names(self):
        for path in FOLDER.rglob("*"):
            if "__pycache__" not in path.parts:
                self.assertRegex(path.name, r"\A([a-z][a-z0-9_]*|__init__|__main__)\.py\Z")
        for tree in self.trees.values():
            names = stored_names(tree) + [node.name for node in nodes(tree, ast.FunctionDef, ast.ClassDef)]
            for name in names:
                self.assertTrue(name in SPECIAL_METHODS or re.fullmatch(r"[A-Za-z][A-Za-z0-9_]*", name), name)

    def test_signs_words_and_sizes(self):
        for path, text in self.texts.items():
            rows = text.split("\n")
            self.assertLessEqual(len(rows), 400, path)
            self.assertRegex(text, r"\A[ -~\n]*\Z", path)
            self.assertEqual([row for row in rows if len(row) > 120], [], path)
            self.assertEqual(WORDS & set(re.findall(r"\w+", text)), set(), path)
            self.assertEqual([part for part in PARTS if part in text], [], path)
            for node in nodes(self.trees[path], ast.FunctionDef):
                self.assertLessEqual(node.end_lineno - node.lineno + 1, 40, node.name)

    def test_statements_and_expressions(self):
        for path, tree in self.trees.items():
            for node in ast.walk(tree):
                where = (path.name, getattr(node, "lineno", 0), ast.dump(node)[:80])
                self.assertIsInstance(node, ALLOWED_NODES, where)
                self.assertNotIsInstance(node, FORBIDDEN_NODES, where)
                self.check_node(node, where)
            docstring = tree.body[0]
            loose = [node for node in nodes(tree, ast.Expr) if not isinstance(node.value, ast.Call)]
            self.assertEqual(loose, [docstring], path)

    def check_node(self, node, where):
        if isinstance(node, (ast.While, ast.For)):
            self.assertEqual(node.orelse, [], where)
        if isinstance(node, (ast.FunctionDef, ast.ClassDef)):
            self.assertEqual(node.decorator_list, [], where)
        if isinstance(node, ast.FunctionDef):
            self.assertIsNone(node.returns, where)
            self.assertEqual((node.args.vararg, node.args.kwarg, node.args.kwonlyargs), (None, None, []), where)
        if isinstance(node, ast.arg):
            self.assertIsNone(node.annotation, where)
        if isinstance(node, ast.Assign):
            self.assertEqual(len(node.targets), 1, where)
        if isinstance(node, ast.ListComp):
            self.assertEqual(len(node.generators), 1, where)
            self.assertLessEqual(len(node.generators[0].ifs), 1, where)
        if isinstance(node, ast.Constant):
            self.assertIn(type(node.value), (int, str, bool, type(None)), where)
        if isinstance(node, ast.Pow):
            self.fail(where)
        if isinstance(node, ast.FormattedValue):
            self.assertIsInstance(node.value, ast.Name, where)
        if isinstance(node, ast.Compare) and isinstance(node.ops[0], (ast.Is, ast.IsNot)):
            self.assertIsInstance(node.comparators[0], ast.Constant, where)

    def test_top_of_a_file(self):
        for path, tree in self.trees.items():
            bound = []
            for node in tree.body[1:]:
                self.assertIsInstance(node, (ast.ImportFrom, ast.FunctionDef, ast.ClassDef, ast.Assign), path)
                if isinstance(node, ast.Assign):
                    ast.literal_eval(node.value)
                    bound.append(node.targets[0].id)
                elif isinstance(node, ast.ImportFrom):
                    bound.extend(name.name for name in node.names)
                else:
                    bound.append(node.name)
            self.assertEqual(len(bound), len(set(bound)), path)
            for name in stored_names(tree):
                self.assertNotIn(name, dir(__builtins__) if not isinstance(__builtins__, dict) else __builtins__)

    def test_imports(self):
        for path, tree in self.trees.items():
            for node in nodes(tree, ast.ImportFrom):
                self.assertIn(node, tree.body, path)
                self.assertEqual(node.level, 0, path)
                source = FOLDER.parent.joinpath(*node.module.split(".")).with_suffix(".py")
                defined = [one.name for one in self.trees[source].body if hasattr(one, "name")]
                for name in node.names:
                    self.assertIn(name.name, defined, path)
                    self.assertIsNone(name.asname, path)
        self.assertEqual(len(self.trees[FOLDER / "__init__.py"].body), 1)

    def test_names_that_are_read(self):
        for path, tree in self.trees.items():
            known = set(stored_names(tree)) | BUILTINS
            known |= {node.name for node in nodes(tree, ast.FunctionDef, ast.ClassDef)}
            known |= {name.name for name in nodes(tree, ast.alias)}
            for node in nodes(tree, ast.Name):
                self.assertIn(node.id, known, path)

    def test_methods_and_values_of_objects(self):
        methods = own_methods(self.trees.values())
        values = {node.attr for tree in self.trees.values() for node in nodes(tree, ast.Attribute)
                  if isinstance(node.ctx, ast.Store)}
        self.assertEqual(methods & values, set())
        self.assertEqual((values | methods - SPECIAL_METHODS) & VALUES_OF_PYTHON, set())
        for path, tree in self.trees.items():
            called = [node.func for node in nodes(tree, ast.Call)]
            for node in nodes(tree, ast.Attribute):
                known = METHODS | methods if node in called else values
                self.assertIn(node.attr, known, (path.name, node.lineno))

    def test_sets_stand_where_they_may(self):
        for path, tree in self.trees.items():
            within = [node.args[0] for node in nodes(tree, ast.Call)
                      if isinstance(node.func, ast.Name) and node.func.id in ("sorted", "len")]
            for node in nodes(tree, ast.Call):
                if isinstance(node.func, ast.Name) and node.func.id in ("set", "frozenset"):
                    self.assertIn(node, within, (path.name, node.lineno))


if __name__ == "__main__":
    unittest.main()
