"""Those rules of the program's part of Python that can be seen in its files."""

import ast
import builtins
import pathlib
import re
import unittest

PACKAGE = pathlib.Path(__file__).resolve().parent.parent / "claimwithin"

FREE_BUILTINS = set(
    "len range enumerate zip min max sum abs sorted reversed int str bool list tuple dict set frozenset isinstance ord repr any all "
    "divmod Exception ValueError TypeError KeyError IndexError LookupError ZeroDivisionError ArithmeticError OverflowError "
    "RuntimeError NotImplementedError AttributeError StopIteration".split()
)
FREE_METHODS = set(
    "append clear copy count endswith extend find get index insert isalnum isalpha isdigit islower isspace isupper items join keys "
    "ljust lower lstrip partition pop remove replace reverse rfind rjust rpartition rsplit rstrip setdefault split splitlines "
    "startswith strip update upper values zfill bit_length".split()
)
NAMES_OUT = set(
    "register mro elements open input version_info with_traceback add_note attrgetter breakpoint builtins compile copyright credits "
    "delattr dir eval exec exit gc getattr globals hasattr help id importlib license locals methodcaller os quit setattr super type "
    "vars sys format format_map chr".split()
)
WORDS_OUT = re.compile(
    r"\b(type|typing|typing_extensions|enum|Enum|IntEnum|StrEnum|Flag|IntFlag|Generic|Protocol|ABC|ABCMeta|namedtuple|NamedTuple"
    r"|TypedDict|TYPE_CHECKING|abstractmethod)\b|dataclass|overload|contextmanager"
)
NODES_OUT = (
    ast.With, ast.Match, ast.Delete, ast.Global, ast.Nonlocal, ast.Assert, ast.Yield, ast.YieldFrom, ast.AsyncFunctionDef, ast.Await,
    ast.SetComp, ast.DictComp, ast.GeneratorExp, ast.NamedExpr, ast.Starred, ast.Div, ast.Import, ast.Set, ast.AnnAssign, ast.MatMult,
)
DUNDER_METHODS = ("__init__", "__eq__", "__repr__", "__str__", "__len__")
OWN_VALUES_OUT = set("items keys values pop update append clear extend insert remove reverse setdefault sort args encode format".split())


def sources():
    """The package's files, by their names within it."""
    return {str(path.relative_to(PACKAGE)): path.read_text(encoding="utf-8") for path in sorted(PACKAGE.rglob("*.py"))}


def nodes_of(kinds):
    found = []
    for name, text in sources().items():
        found.extend((name, node) for node in ast.walk(ast.parse(text)) if isinstance(node, kinds))
    return found


def is_plain(node):
    """Whether it's a whole number, a text, True, False or None, written out."""
    if isinstance(node, ast.UnaryOp) and isinstance(node.op, ast.USub):
        return isinstance(node.operand, ast.Constant) and type(node.operand.value) is int
    return isinstance(node, ast.Constant) and type(node.value) in (int, str, bool, type(None))


def defaults_out(text):
    """The lines of those parameters' defaults that are no plain values, of defs, methods and lambdas."""
    lines = []
    for node in ast.walk(ast.parse(text)):
        if isinstance(node, (ast.FunctionDef, ast.Lambda)):
            given = node.args.defaults + [default for default in node.args.kw_defaults if default is not None]
            lines.extend(default.lineno for default in given if not is_plain(default))
    return sorted(lines)


def bound_names(tree):
    """Names of parameters and locals of all functions."""
    names = set()
    for node in ast.walk(tree):
        if isinstance(node, ast.arg):
            names.add(node.arg)
        elif isinstance(node, ast.Name) and isinstance(node.ctx, ast.Store):
            names.add(node.id)
        elif isinstance(node, ast.ExceptHandler) and node.name:
            names.add(node.name)
    return names


class LanguageTest(unittest.TestCase):
    def test_files(self):
        for path in PACKAGE.iterdir():
            if path.name != "__pycache__":
                self.assertRegex(path.name, r"^[a-z0-9_]+\.py$")
        for name, text in sources().items():
            self.assertLessEqual(len(text.splitlines()), 400, name)
            for line in text.split("\n"):
                self.assertLessEqual(len(line), 120, name)
                self.assertRegex(line, r"^[ -~]*$", name)
                self.assertIsNone(WORDS_OUT.search(line), (name, line))

    def test_imports(self):
        draws = {}
        for name, text in sources().items():
            tree = ast.parse(text)
            draws[name[:-3]] = set()
            for node in tree.body:
                if isinstance(node, ast.ImportFrom):
                    self.assertRegex(node.module, r"^claimwithin\.[a-z]+$")
                    self.assertEqual(node.level, 0)
                    draws[name[:-3]].add(node.module.split(".")[1])
                    for alias in node.names:
                        self.assertNotEqual(alias.name, "*")
        while draws:
            free = [name for name, wanted in draws.items() if not wanted & set(draws)]
            self.assertTrue(free, draws)
            for name in free:
                draws.pop(name)

    def test_tops(self):
        plain = (ast.Expr, ast.ImportFrom, ast.FunctionDef, ast.ClassDef, ast.Assign)
        for name, text in sources().items():
            seen = []
            for node in ast.parse(text).body:
                self.assertIsInstance(node, plain, name)
                if isinstance(node, ast.Assign):
                    ast.literal_eval(node.value)
                    seen.append(node.targets[0].id)
                elif isinstance(node, (ast.FunctionDef, ast.ClassDef)):
                    seen.append(node.name)
                elif isinstance(node, ast.ImportFrom):
                    seen.extend(alias.name for alias in node.names)
            self.assertEqual(len(seen), len(set(seen)), name)

    def test_statements_and_expressions(self):
        self.assertEqual(nodes_of(NODES_OUT), [])
        for name, node in nodes_of((ast.For, ast.While)):
            self.assertEqual(node.orelse, [], name)
        for name, node in nodes_of(ast.Assign):
            self.assertEqual(len(node.targets), 1, name)
        for name, node in nodes_of(ast.Try):
            self.assertEqual(node.finalbody, [], name)
        for name, node in nodes_of(ast.ListComp):
            self.assertEqual(len(node.generators), 1, name)
            self.assertLessEqual(len(node.generators[0].ifs), 1, name)
        for name, node in nodes_of(ast.Constant):
            self.assertIsInstance(node.value, (int, str, type(None)), name)
        for name, node in nodes_of(ast.Compare):
            if any(isinstance(operator, (ast.Is, ast.IsNot)) for operator in node.ops):
                self.assertIn(node.comparators[0].value, (None, True, False), name)

    def test_functions(self):
        for name, node in nodes_of(ast.FunctionDef):
            self.assertLessEqual(node.end_lineno - node.lineno + 1, 40, (name, node.name))
            self.assertEqual(node.decorator_list, [])
            self.assertIsNone(node.args.vararg)
            self.assertIsNone(node.args.kwarg)
            self.assertEqual(node.args.kwonlyargs, [])
            self.assertIsNotNone(ast.get_docstring(node) or node.name in DUNDER_METHODS or None, (name, node.name))

    def test_defaults(self):
        for name, text in sources().items():
            self.assertEqual(defaults_out(text), [], name)

    def test_defaults_that_are_sent_back(self):
        for default in ("()", "(1,)", "[]", "{}", "list()", "X", "1.5", "b''", "1 + 1", "-X", "not 1", "lambda: 1", "f''", "..."):
            self.assertEqual(defaults_out(f"X = 1\ndef f(a, b={default}):\n    return a\n"), [2], default)
            self.assertEqual(defaults_out(f"class C:\n    def __init__(self, a,\n            b=0, c={default}):\n        pass\n"), [3])
            self.assertEqual(defaults_out(f"def f(a):\n    def g(b={default}, c=1):\n        return b\n    return g\n"), [2])
            self.assertEqual(defaults_out(f"def f(a):\n    return lambda b={default}: b\n"), [2])
            self.assertEqual(defaults_out(f"def f(a, *, b={default}):\n    return a\n"), [1])
        self.assertEqual(defaults_out("def f(a, b=(), c=()):\n    return a\n"), [1, 1])

    def test_defaults_that_are_plain(self):
        for default in ("0", "7", "-1", "''", "'text'", "True", "False", "None"):
            self.assertEqual(defaults_out(f"def f(a, b={default}):\n    return a\n"), [], default)
            self.assertEqual(defaults_out(f"class C:\n    def m(self, a={default}):\n        pass\n"), [], default)

    def test_each_file_is_looked_at(self):
        files = {str(path.relative_to(PACKAGE)) for path in PACKAGE.rglob("*") if path.is_file() and path.suffix != ".pyc"}
        self.assertEqual(set(sources()), files)
        self.assertIn("desk.py", sources())

    def test_names(self):
        python_names = set(dir(builtins))
        for name, text in sources().items():
            tree = ast.parse(text)
            for node in ast.walk(tree):
                if isinstance(node, ast.Name):
                    self.assertNotIn(node.id, NAMES_OUT, name)
                    self.assertFalse(node.id.startswith("_"), (name, node.id))
                    self.assertTrue(node.id not in python_names or node.id in FREE_BUILTINS, (name, node.id))
                elif isinstance(node, ast.Attribute):
                    self.assertNotIn(node.attr, NAMES_OUT, name)
                    self.assertTrue(not node.attr.startswith("_") or node.attr in DUNDER_METHODS, (name, node.attr))
            bound = bound_names(tree)
            self.assertEqual(bound & python_names, set(), name)
            given = {alias.name for node in tree.body if isinstance(node, ast.ImportFrom) for alias in node.names}
            given |= {node.name for node in tree.body if isinstance(node, (ast.ClassDef, ast.FunctionDef))}
            self.assertEqual(bound & given, set(), name)

    def test_methods_and_values(self):
        methods = set()
        for name, node in nodes_of(ast.ClassDef):
            methods |= {part.name for part in node.body if isinstance(part, ast.FunctionDef)}
        values = {node.attr for name, node in nodes_of(ast.Attribute) if isinstance(node.ctx, ast.Store)}
        self.assertEqual(methods & values, set())
        self.assertEqual(values & OWN_VALUES_OUT, set())
        python_attributes = set()
        for kind in (str, int, list, dict, set, bytes, tuple):
            python_attributes |= {attribute for attribute in dir(kind) if not attribute.startswith("_")}
        self.assertEqual(values & python_attributes, set())
        self.assertLessEqual(methods & python_attributes, FREE_METHODS | {"add", "discard"})
        for name, node in nodes_of(ast.Call):
            if isinstance(node.func, ast.Attribute):
                self.assertIn(node.func.attr, FREE_METHODS | methods, name)


if __name__ == "__main__":
    unittest.main()
