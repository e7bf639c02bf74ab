"""Checks those rules of the program's small part of Python that can be seen from its files alone."""

import ast
import builtins
import pathlib
import re
import unittest

PACKAGE = pathlib.Path(__file__).resolve().parent.parent / "numberpictures"

STATEMENTS = (ast.Assign, ast.AugAssign, ast.If, ast.While, ast.For, ast.Return, ast.Break, ast.Continue, ast.Pass,
              ast.Raise, ast.Try, ast.Expr, ast.FunctionDef, ast.ClassDef, ast.ImportFrom)

FORBIDDEN_NODES = (ast.Div, ast.SetComp, ast.DictComp, ast.GeneratorExp, ast.NamedExpr, ast.Starred)

OWN_NAMES = """len range enumerate zip min max sum abs sorted reversed int str bool list tuple dict set frozenset
    isinstance ord repr any all divmod Exception ValueError TypeError KeyError IndexError LookupError
    ZeroDivisionError ArithmeticError OverflowError RuntimeError NotImplementedError AttributeError
    StopIteration""".split()

METHODS = """append clear copy count endswith extend find get index insert isalnum isalpha isdigit islower isspace
    isupper items join keys ljust lower lstrip partition pop remove replace reverse rfind rjust rpartition rsplit
    rstrip setdefault split splitlines startswith strip update upper values zfill bit_length""".split()

WORDS = re.compile(r"\b(type|typing|typing_extensions|enum|Enum|IntEnum|StrEnum|Flag|IntFlag|Generic|Protocol|ABC|"
                   r"ABCMeta|namedtuple|NamedTuple|TypedDict|TYPE_CHECKING|abstractmethod)\b|"
                   r"dataclass|overload|contextmanager")


class Language(unittest.TestCase):
    def setUp(self):
        self.sources = {path.name: path.read_text("utf-8") for path in sorted(PACKAGE.glob("*.py"))}
        self.trees = {name: ast.parse(source) for name, source in self.sources.items()}

    def nodes(self):
        for name, tree in self.trees.items():
            for node in ast.walk(tree):
                yield f"{name}:{getattr(node, 'lineno', 0)}", node

    def test_the_folder_holds_plain_files_alone(self):
        for path in PACKAGE.iterdir():
            if path.name != "__pycache__":
                self.assertRegex(path.name, r"^(__init__|[a-z][a-z0-9_]*)\.py$")

    def test_sizes_signs_and_words(self):
        for name, source in self.sources.items():
            lines = source.split("\n")
            self.assertLessEqual(len(lines), 401, name)
            self.assertLessEqual(max(map(len, lines)), 120, name)
            self.assertRegex(source, r"\A[ -~\n]*\Z", name)
            self.assertIsNone(WORDS.search(source), name)
        for place, node in self.nodes():
            if isinstance(node, ast.FunctionDef):
                self.assertLessEqual(node.end_lineno - node.lineno + 1, 40, place)

    def test_statements_and_expressions(self):
        for place, node in self.nodes():
            if isinstance(node, ast.stmt):
                self.assertIsInstance(node, STATEMENTS, place)
            self.assertNotIsInstance(node, FORBIDDEN_NODES, place)
            if isinstance(node, ast.Assign):
                self.assertEqual(len(node.targets), 1, place)
                self.assertNotIsInstance(node.targets[0], (ast.Tuple, ast.List), place)
            if isinstance(node, (ast.For, ast.While)):
                self.assertEqual(node.orelse, [], place)
            if isinstance(node, ast.ListComp):
                self.assertEqual(len(node.generators), 1, place)
                self.assertLessEqual(len(node.generators[0].ifs), 1, place)
            if isinstance(node, ast.BinOp) and isinstance(node.op, ast.Pow):
                self.assertIsInstance(node.right, ast.Constant, place)
            if isinstance(node, ast.Constant):
                self.assertIsInstance(node.value, (int, str, type(None)), place)
                if isinstance(node.value, str):
                    self.assertNotIn("%", node.value, place)

    def own_methods(self):
        classes = [node for place, node in self.nodes() if isinstance(node, ast.ClassDef)]
        return [node.name for own in classes for node in own.body if isinstance(node, ast.FunctionDef)]

    def test_names(self):
        methods = METHODS + self.own_methods()
        for place, node in self.nodes():
            if isinstance(node, ast.Name):
                self.assertRegex(node.id, r"^[A-Za-z]", place)
                if node.id in dir(builtins):
                    self.assertIn(node.id, OWN_NAMES, place)
                    self.assertIsInstance(node.ctx, ast.Load, place)
            if isinstance(node, ast.arg):
                self.assertNotIn(node.arg, dir(builtins), place)
                self.assertIsNone(node.annotation, place)
            if isinstance(node, ast.Call) and isinstance(node.func, ast.Attribute):
                self.assertIn(node.func.attr, methods, place)

    def test_imports_and_tops(self):
        for name, tree in self.trees.items():
            bound = [node.targets[0].id for node in tree.body if isinstance(node, ast.Assign)]
            self.assertEqual(len(bound), len(set(bound)), name)
            for node in ast.walk(tree):
                if isinstance(node, ast.ImportFrom):
                    self.assertRegex(node.module, r"^numberpictures\.[a-z0-9_]+$", name)
                    self.assertEqual(node.level, 0, name)
                    defined = self.defined(node.module.split(".")[1] + ".py")
                    for alias in node.names:
                        self.assertIn(alias.name, defined, name)

    def defined(self, name):
        body = self.trees[name].body
        named = [node.name for node in body if isinstance(node, (ast.FunctionDef, ast.ClassDef))]
        return named + [node.targets[0].id for node in body if isinstance(node, ast.Assign)]


if __name__ == "__main__":
    unittest.main()
