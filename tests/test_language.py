"""The package keeps to the small Python that is asked of it, as far as can be seen simply."""

import ast
import builtins
import os
import re
import unittest

HERE = os.path.dirname(os.path.abspath(__file__))
PACKAGE = os.path.join(os.path.dirname(HERE), "growurns")

ALLOWED_BUILTINS = set("""
    len range enumerate zip min max sum abs sorted reversed int str bool bytes list tuple dict
    set frozenset isinstance ord repr any all divmod Exception ValueError TypeError KeyError
    IndexError LookupError ZeroDivisionError ArithmeticError OverflowError RuntimeError
    NotImplementedError AttributeError StopIteration
""".split())

BARRED_NODES = (
    ast.With, ast.AsyncWith, ast.Match, ast.Global, ast.Nonlocal, ast.Yield, ast.YieldFrom,
    ast.AsyncFunctionDef, ast.AsyncFor, ast.Await, ast.GeneratorExp, ast.NamedExpr, ast.Import,
    ast.Div, ast.MatMult,
)

BARRED_WORDS = re.compile(
    r"\b(type|typing|typing_extensions|enum|Enum|IntEnum|StrEnum|Flag|IntFlag|Generic|Protocol|ABC"
    r"|ABCMeta|namedtuple|NamedTuple|TypedDict|TYPE_CHECKING|abstractmethod)\b"
    r"|dataclass|overload|contextmanager"
)

BARRED_NAMES = set("""
    register mro elements open input version_info with_traceback add_note attrgetter breakpoint
    builtins compile copyright credits delattr dir eval exec exit gc getattr globals hasattr help
    id importlib license locals methodcaller os quit setattr super type vars sys
""".split())


METHODS = set("""
    append clear copy count endswith extend find get index insert isalnum isalpha isdigit islower
    isspace isupper items join keys ljust lower lstrip partition pop remove replace reverse rfind
    rjust rpartition rsplit rstrip setdefault split splitlines startswith strip update upper values
    zfill bit_length
""".split())

KINDS_OF_VALUES = (str, int, list, tuple, dict, set, bytes)


def sources():
    """The tuples (file name, text) of the package."""
    found = []
    for name in sorted(os.listdir(PACKAGE)):
        if name != "__pycache__":
            with open(os.path.join(PACKAGE, name), encoding="utf-8") as file:
                found.append((name, file.read()))
    return found


def nodes():
    """The tuples (file name, node) of the package."""
    return [(name, node) for name, text in sources() for node in ast.walk(ast.parse(text))]


class TestLanguage(unittest.TestCase):

    def test_files(self):
        for name, text in sources():
            self.assertRegex(name, r"\A[a-z0-9_]+\.py\Z")
            self.assertRegex(text, r"\A[ -~\n]*\Z", name)
            self.assertLessEqual(text.count("\n"), 400, name)
            self.assertLessEqual(max(len(line) for line in text.split("\n")), 120, name)
            self.assertIsNone(BARRED_WORDS.search(text), name)

    def test_imports_name_the_file_that_defines(self):
        defined = {}
        for name, text in sources():
            module = "growurns." + name[:-3]
            for node in ast.parse(text).body:
                if isinstance(node, (ast.FunctionDef, ast.ClassDef)):
                    defined.setdefault(module, []).append(node.name)
                if isinstance(node, ast.Assign):
                    defined.setdefault(module, []).append(node.targets[0].id)
        for name, node in nodes():
            if isinstance(node, ast.ImportFrom):
                self.assertEqual(node.level, 0, name)
                for alias in node.names:
                    self.assertIn(alias.name, defined.get(node.module, []), name)

    def test_statements_and_expressions(self):
        for name, node in nodes():
            self.assertNotIsInstance(node, BARRED_NODES, f"{name}: {ast.dump(node)}")
            if isinstance(node, (ast.For, ast.While)):
                self.assertEqual(node.orelse, [], name)
            if isinstance(node, ast.Constant):
                self.assertNotIsInstance(node.value, (float, complex), name)
                self.assertFalse(isinstance(node.value, str) and "%" in node.value, name)
            if isinstance(node, ast.Compare):
                for test, right in zip(node.ops, node.comparators):
                    if isinstance(test, (ast.Is, ast.IsNot)):
                        self.assertTrue(isinstance(right, ast.Constant) and right.value in (None, True, False))

    def test_functions(self):
        for name, node in nodes():
            if isinstance(node, (ast.FunctionDef, ast.Lambda)):
                self.assertFalse(node.args.vararg or node.args.kwarg or node.args.posonlyargs, name)
            if isinstance(node, ast.FunctionDef):
                self.assertLessEqual(node.end_lineno - node.lineno + 1, 40, node.name)
            if isinstance(node, (ast.FunctionDef, ast.ClassDef)):
                self.assertEqual(node.decorator_list, [], node.name)

    def test_names(self):
        for name, node in nodes():
            if isinstance(node, ast.Name):
                bound = isinstance(node.ctx, ast.Store)
                self.assertFalse(bound and node.id in dir(builtins), f"{name}: {node.id}")
                known = node.id in ALLOWED_BUILTINS or node.id not in dir(builtins)
                self.assertTrue(known, f"{name}: {node.id}")
                self.assertNotIn(node.id, BARRED_NAMES, name)
                self.assertFalse(node.id.startswith("_"), f"{name}: {node.id}")
            if isinstance(node, ast.arg):
                self.assertFalse(node.arg in dir(builtins) or node.arg in BARRED_NAMES, f"{name}: {node.arg}")
                self.assertFalse(node.arg.startswith("_"), f"{name}: {node.arg}")

    def test_classes_and_methods(self):
        own = {inner.name for name, node in nodes() if isinstance(node, ast.ClassDef)
               for inner in node.body if isinstance(inner, ast.FunctionDef)}
        for name, node in nodes():
            if isinstance(node, ast.ClassDef):
                self.assertLessEqual(len(node.bases), 1, node.name)
                for at, inner in enumerate(node.body):
                    docstring = at == 0 and isinstance(inner, ast.Expr)
                    self.assertTrue(docstring or isinstance(inner, ast.FunctionDef), node.name)
            if isinstance(node, ast.Call) and isinstance(node.func, ast.Attribute):
                self.assertIn(node.func.attr, METHODS | own, name)
            if isinstance(node, ast.Attribute) and isinstance(node.ctx, ast.Store):
                self.assertNotIn(node.attr, own, name)
                self.assertFalse(any(hasattr(kind, node.attr) for kind in KINDS_OF_VALUES), node.attr)
        for method in own - {"__init__"}:
            self.assertFalse(any(hasattr(kind, method) for kind in KINDS_OF_VALUES), method)

    def test_no_two_files_import_from_each_other(self):
        reached = {name[:-3]: set() for name, text in sources()}
        for name, node in nodes():
            if isinstance(node, ast.ImportFrom):
                reached[name[:-3]].add(node.module.split(".")[1])
        for step in reached:
            for name in reached:
                reached[name] |= {further for near in reached[name] for further in reached[near]}
        for name, further in reached.items():
            self.assertNotIn(name, further)

    def test_no_local_name_is_that_of_an_import_or_a_class(self):
        for name, text in sources():
            tree = ast.parse(text)
            taken = {node.name for node in tree.body if isinstance(node, ast.ClassDef)}
            for node in tree.body:
                if isinstance(node, ast.ImportFrom):
                    taken |= {alias.asname or alias.name for alias in node.names}
            for node in ast.walk(tree):
                if isinstance(node, ast.arg):
                    self.assertNotIn(node.arg, taken, name)
                if isinstance(node, ast.Name) and isinstance(node.ctx, ast.Store):
                    self.assertNotIn(node.id, taken, name)

    def test_module_level(self):
        for name, text in sources():
            bound = []
            for at, node in enumerate(ast.parse(text).body):
                docstring = at == 0 and isinstance(node, ast.Expr)
                kinds = (ast.ImportFrom, ast.FunctionDef, ast.ClassDef, ast.Assign)
                self.assertTrue(docstring or isinstance(node, kinds), f"{name}: {ast.dump(node)}")
                if isinstance(node, ast.ImportFrom):
                    bound += [alias.asname or alias.name for alias in node.names]
                elif isinstance(node, ast.Assign):
                    bound.append(node.targets[0].id)
                elif not docstring:
                    bound.append(node.name)
            self.assertEqual(len(bound), len(set(bound)), name)


if __name__ == "__main__":
    unittest.main()
