"""What can be seen of the language rules, and of point 1: no clock, no chance, no files."""

import ast
import builtins
import pathlib
import re
import unittest

PACKAGE = pathlib.Path(__file__).resolve().parent.parent / "stepcells"

ALLOWED_BUILTINS = set(
    "len range enumerate zip min max sum abs sorted reversed int str bool list tuple dict set frozenset isinstance ord "
    "repr any all divmod Exception ValueError TypeError KeyError IndexError LookupError ZeroDivisionError "
    "ArithmeticError OverflowError RuntimeError NotImplementedError AttributeError StopIteration".split())

ALLOWED_METHODS = set(
    "append clear copy count endswith extend find get index insert isalnum isalpha isdigit islower isspace isupper "
    "items join keys ljust lower lstrip partition pop remove replace reverse rfind rjust rpartition rsplit rstrip "
    "setdefault split splitlines startswith strip update upper values zfill bit_length".split())

BANNED_NODES = (
    ast.With, ast.Match, ast.Delete, ast.Global, ast.Nonlocal, ast.Assert, ast.Yield, ast.YieldFrom, ast.Await,
    ast.AsyncFunctionDef, ast.AsyncFor, ast.AsyncWith, ast.Starred, ast.SetComp, ast.DictComp, ast.GeneratorExp,
    ast.NamedExpr, ast.Div, ast.Import, ast.AnnAssign)

BANNED_WORDS = re.compile(
    r"\b(type|typing|typing_extensions|enum|Enum|IntEnum|StrEnum|Flag|IntFlag|Generic|Protocol|ABC|ABCMeta|namedtuple"
    r"|NamedTuple|TypedDict|TYPE_CHECKING|abstractmethod)\b|dataclass|overload|contextmanager")


def package_files():
    return sorted(path for path in PACKAGE.rglob("*") if path.is_file() and "__pycache__" not in path.parts)


def nodes_of(path):
    return list(ast.walk(ast.parse(path.read_text(encoding="utf-8"))))


def bound_names(nodes):
    for node in nodes:
        if isinstance(node, ast.Name) and isinstance(node.ctx, ast.Store):
            yield node.id
        elif isinstance(node, ast.arg):
            yield node.arg
        elif isinstance(node, (ast.FunctionDef, ast.ClassDef)):
            yield node.name


def top_names(tree):
    names = [node.name for node in tree.body if isinstance(node, (ast.FunctionDef, ast.ClassDef))]
    return names + [target.id for node in tree.body if isinstance(node, ast.Assign) for target in node.targets]


class TestLanguage(unittest.TestCase):
    def test_files(self):
        names = [path.relative_to(PACKAGE).as_posix() for path in package_files()]
        self.assertIn("__init__.py", names)
        for name in names:
            self.assertRegex(name, r"^(__init__|[a-z][a-z0-9_]*)\.py$")

    def test_signs_and_sizes(self):
        for path in package_files():
            text = path.read_text(encoding="utf-8")
            self.assertRegex(text, r"\A[ -~\n]*\Z")
            self.assertIsNone(BANNED_WORDS.search(text))
            lines = text.splitlines()
            self.assertLessEqual(len(lines), 400)
            self.assertLessEqual(max([len(line) for line in lines], default=0), 120)
            for node in nodes_of(path):
                if isinstance(node, ast.FunctionDef):
                    self.assertLessEqual(node.end_lineno - node.lineno + 1, 40)

    def test_imports_are_the_own_modules_alone(self):
        for path in package_files():
            for node in nodes_of(path):
                if isinstance(node, ast.ImportFrom):
                    self.assertEqual(node.level, 0)
                    self.assertRegex(node.module, r"^stepcells\.[a-z0-9_]+$")
                    self.assertNotIn("*", [alias.name for alias in node.names])

    def test_nodes(self):
        for path in package_files():
            for node in nodes_of(path):
                self.assertNotIsInstance(node, BANNED_NODES)
                if isinstance(node, ast.Constant):
                    self.assertNotIsInstance(node.value, (float, bytes, complex))
                if isinstance(node, ast.FunctionDef):
                    self.assertEqual(node.decorator_list, [])
                    self.assertIsNone(node.args.vararg)
                    self.assertIsNone(node.args.kwarg)
                    self.assertEqual(node.args.kwonlyargs, [])

    def test_names(self):
        for path in package_files():
            nodes = nodes_of(path)
            for name in bound_names(nodes):
                self.assertFalse(hasattr(builtins, name), name)
                if name not in ("__init__", "__eq__", "__repr__", "__str__", "__len__"):
                    self.assertRegex(name, r"^[A-Za-z][A-Za-z0-9_]*$")
            for node in nodes:
                if isinstance(node, ast.Name) and hasattr(builtins, node.id):
                    self.assertIn(node.id, ALLOWED_BUILTINS)
                if isinstance(node, ast.Attribute):
                    self.assertIn(node.attr, ALLOWED_METHODS)

    def test_no_two_files_draw_from_one_another(self):
        drawn = {}
        for path in package_files():
            imports = [node for node in nodes_of(path) if isinstance(node, ast.ImportFrom)]
            drawn[f"stepcells.{path.stem}"] = [node.module for node in imports]
        # The file __init__.py stands above all others, so it draws from none.
        self.assertEqual(drawn.pop("stepcells.__init__"), [])
        while drawn:
            free = [module for module, others in drawn.items() if not set(others) & set(drawn)]
            self.assertNotEqual(free, [], drawn)
            for module in free:
                drawn.pop(module)

    def test_names_are_drawn_from_the_file_that_defines_them(self):
        for path in package_files():
            for node in nodes_of(path):
                if isinstance(node, ast.ImportFrom):
                    tree = ast.parse((PACKAGE / (node.module.split(".")[1] + ".py")).read_text(encoding="utf-8"))
                    for alias in node.names:
                        self.assertIn(alias.name, top_names(tree))

    def test_each_name_once_at_the_top_and_none_of_them_a_local(self):
        for path in package_files():
            tree = ast.parse(path.read_text(encoding="utf-8"))
            imported = [alias.name for node in tree.body if isinstance(node, ast.ImportFrom) for alias in node.names]
            names = top_names(tree) + imported
            self.assertEqual(len(names), len(set(names)))
            for function in [node for node in tree.body if isinstance(node, ast.FunctionDef)]:
                self.assertEqual(set(bound_names(ast.walk(function))) & set(names), {function.name})

    def test_expressions(self):
        for path in package_files():
            for node in nodes_of(path):
                if isinstance(node, ast.Compare) and isinstance(node.ops[0], (ast.Is, ast.IsNot)):
                    self.assertIsInstance(node.comparators[0], ast.Constant)
                if isinstance(node, ast.FormattedValue):
                    self.assertIsInstance(node.value, ast.Name)
                    self.assertIsNone(node.format_spec)
                if isinstance(node, ast.Constant) and isinstance(node.value, str):
                    self.assertNotIn("%", node.value)
                if isinstance(node, ast.Assign):
                    self.assertEqual(len(node.targets), 1)
                if isinstance(node, (ast.For, ast.While)):
                    self.assertEqual(node.orelse, [])
                if isinstance(node, ast.ListComp):
                    self.assertEqual(len(node.generators), 1)
                    self.assertLessEqual(len(node.generators[0].ifs), 1)


if __name__ == "__main__":
    unittest.main()
