"""The form of the package: the rules of LANGUAGE.md that can be read off its files."""

import ast
import builtins
import pathlib
import re
import unittest

PACKAGE = pathlib.Path(__file__).resolve().parent.parent / "lockjobs"

STATEMENTS = (ast.Assign, ast.AugAssign, ast.If, ast.While, ast.For, ast.Return, ast.Break, ast.Continue, ast.Pass,
              ast.Raise, ast.Try, ast.Expr, ast.FunctionDef, ast.ClassDef, ast.ImportFrom)
EXPRESSIONS = (ast.Constant, ast.List, ast.Tuple, ast.Dict, ast.BinOp, ast.UnaryOp, ast.Compare, ast.BoolOp, ast.IfExp,
               ast.Call, ast.Attribute, ast.Subscript, ast.Slice, ast.ListComp, ast.Name, ast.Lambda)
OWN_NAMES = """len range enumerate zip min max sum abs sorted reversed int str bool list tuple dict isinstance ord repr
any all divmod ValueError KeyError ZeroDivisionError""".split()
METHODS = """append clear copy count endswith extend find get index insert isalnum isalpha isdigit islower isspace
isupper items join keys ljust lower lstrip partition pop remove replace reverse rfind rjust rpartition rsplit rstrip
setdefault split splitlines startswith strip update upper values zfill bit_length""".split()
WORDS = re.compile(r"\b(type|typing|typing_extensions|enum|Enum|IntEnum|StrEnum|Flag|IntFlag|Generic|Protocol|ABC|ABCMeta|"
                   r"namedtuple|NamedTuple|TypedDict|TYPE_CHECKING|abstractmethod)\b|dataclass|overload|contextmanager")


def files():
    return sorted(path for path in PACKAGE.iterdir() if path.name != "__pycache__")


def nodes(path):
    return list(ast.walk(ast.parse(path.read_text())))


def names_bound(tree):
    """Each name that a file gives a meaning: what it assigns, its parameters, functions and classes."""
    found = [node.id for node in tree if isinstance(node, ast.Name) and isinstance(node.ctx, ast.Store)]
    found += [node.arg for node in tree if isinstance(node, ast.arg)]
    return found + [node.name for node in tree if isinstance(node, (ast.FunctionDef, ast.ClassDef))]


class Form(unittest.TestCase):
    def test_files_are_plain(self):
        for path in files():
            self.assertRegex(path.name, r"^(__init__|__main__|[a-z][a-z0-9_]*)\.py$")
        self.assertIn("jobs.py", [path.name for path in files()])
        self.assertIn("__init__.py", [path.name for path in files()])

    def test_signs_and_sizes(self):
        for path in files():
            text = path.read_text()
            self.assertRegex(text, r"^[ -~\n]*$")
            self.assertIsNone(WORDS.search(text))
            self.assertLessEqual(len(text.split("\n")), 400)
            self.assertLessEqual(max(len(row) for row in text.split("\n")), 120)
            for node in nodes(path):
                if isinstance(node, ast.FunctionDef):
                    self.assertLessEqual(node.end_lineno - node.lineno + 1, 40, node.name)
                    self.assertEqual(node.decorator_list, [])

    def test_statements_and_expressions(self):
        for path in files():
            for node in nodes(path):
                if isinstance(node, ast.stmt):
                    self.assertIsInstance(node, STATEMENTS, ast.dump(node))
                if isinstance(node, ast.expr):
                    self.assertIsInstance(node, EXPRESSIONS, ast.dump(node))
                if isinstance(node, ast.ListComp):
                    self.assertEqual(len(node.generators), 1)
                    self.assertLessEqual(len(node.generators[0].ifs), 1)
                if isinstance(node, (ast.For, ast.While)):
                    self.assertEqual(node.orelse, [])
                if isinstance(node, ast.Assign):
                    self.assertEqual(len(node.targets), 1)
                    self.assertNotIsInstance(node.targets[0], ast.Tuple)
                if isinstance(node, ast.BinOp):
                    self.assertNotIsInstance(node.op, (ast.Div, ast.Pow, ast.MatMult))
                if isinstance(node, ast.Constant):
                    self.assertNotIsInstance(node.value, (float, bytes, complex))

    def test_names(self):
        for path in files():
            tree = nodes(path)
            bound = names_bound(tree)
            for name in bound:
                self.assertRegex(name, r"^([A-Za-z][A-Za-z0-9_]*|__(init|eq|repr|str|len)__)$")
                self.assertNotIn(name, dir(builtins))
            used = [node.id for node in tree if isinstance(node, ast.Name)]
            drawn = [alias.name for node in tree if isinstance(node, ast.ImportFrom) for alias in node.names]
            for name in used:
                self.assertIn(name, bound + drawn + OWN_NAMES)

    def test_nothing_is_imported(self):
        for path in files():
            for node in nodes(path):
                self.assertNotIsInstance(node, (ast.Import, ast.ImportFrom))

    def test_methods_and_values_have_names_of_their_own(self):
        tree = [node for path in files() for node in nodes(path)]
        classes = [node for node in tree if isinstance(node, ast.ClassDef)]
        methods = [node.name for one in classes for node in one.body if isinstance(node, ast.FunctionDef)]
        values = [node.attr for node in tree if isinstance(node, ast.Attribute) and isinstance(node.ctx, ast.Store)]
        self.assertEqual(set(methods) & set(values), set())
        for name in values:
            for kind in (str, int, list, dict, set, bytes):
                self.assertNotIn(name, dir(kind))
        for node in tree:
            if isinstance(node, ast.Attribute):
                self.assertIn(node.attr, methods + values + METHODS)


if __name__ == "__main__":
    unittest.main()
