"""The package's files keep to the small part of the language: what can be seen of it file by file."""

import ast
import builtins
import pathlib
import re
import unittest

PACKAGE = pathlib.Path(__file__).resolve().parent.parent / "productsofall"

OWN_NAMES = set("""
    len range enumerate zip min max sum abs sorted reversed int str bool list tuple dict set frozenset isinstance
    ord repr any all divmod Exception ValueError TypeError KeyError IndexError LookupError ZeroDivisionError
    ArithmeticError OverflowError RuntimeError NotImplementedError AttributeError StopIteration
""".split())
WORDS_NOWHERE = re.compile(
    r"\b(type|typing|typing_extensions|enum|Enum|IntEnum|StrEnum|Flag|IntFlag|Generic|Protocol|ABC|ABCMeta|"
    r"namedtuple|NamedTuple|TypedDict|TYPE_CHECKING|abstractmethod)\b|dataclass|overload|contextmanager"
)
NODES_NOWHERE = (
    ast.Import, ast.With, ast.Match, ast.Delete, ast.Global, ast.Nonlocal, ast.Assert, ast.Yield, ast.YieldFrom,
    ast.AsyncFunctionDef, ast.Await, ast.SetComp, ast.DictComp, ast.GeneratorExp, ast.NamedExpr, ast.Starred,
    ast.Div, ast.AnnAssign,
)
METHODS = set("""
    append clear copy count endswith extend find get index insert isalnum isalpha isdigit islower isspace isupper
    items join keys ljust lower lstrip partition pop remove replace reverse rfind rjust rpartition rsplit rstrip
    setdefault split splitlines startswith strip update upper values zfill bit_length
""".split())
WALKED_AT_ONCE = {"range", "zip", "enumerate", "reversed", "items", "keys", "values"}
WALKING = {"list", "tuple", "dict", "sorted", "sum", "any", "all", "enumerate", "zip", "min", "max"}


def called(node):
    """The name that a call is called by, or nothing."""
    if not isinstance(node, ast.Call):
        return None
    return node.func.attr if isinstance(node.func, ast.Attribute) else getattr(node.func, "id", None)


class LanguageTest(unittest.TestCase):
    def sources(self):
        for path in sorted(PACKAGE.rglob("*.py")):
            yield path.name, path.read_text(encoding="utf-8")

    def nodes(self):
        for name, text in self.sources():
            for node in ast.walk(ast.parse(text)):
                yield f"{name}:{getattr(node, 'lineno', 0)}", node

    def test_files(self):
        for path in PACKAGE.rglob("*"):
            if "__pycache__" not in path.parts:
                self.assertRegex(path.name, r"^([a-z][a-z0-9_]*|__init__|__main__)\.py$")
        self.assertTrue((PACKAGE / "__init__.py").is_file())

    def test_size_and_signs(self):
        for name, text in self.sources():
            lines = text.split("\n")
            self.assertLessEqual(len(lines), 399, name)
            self.assertRegex(text, r"\A[ -~\n]*\Z", name)
            for number, line in enumerate(lines, start=1):
                self.assertLessEqual(len(line), 120, f"{name}:{number}")
            self.assertIsNone(WORDS_NOWHERE.search(text), name)

    def test_functions(self):
        for where, node in self.nodes():
            if isinstance(node, ast.FunctionDef):
                self.assertLessEqual(node.end_lineno - node.lineno + 1, 40, where)
                self.assertEqual(node.decorator_list, [], where)
                self.assertFalse(node.args.vararg or node.args.kwarg or node.args.kwonlyargs, where)

    def test_imports_are_the_packages_own(self):
        for where, node in self.nodes():
            if isinstance(node, ast.ImportFrom):
                self.assertRegex(node.module or "", r"^productsofall\.", where)
                self.assertEqual(node.level, 0, where)

    def test_what_stands_nowhere(self):
        for where, node in self.nodes():
            self.assertNotIsInstance(node, NODES_NOWHERE, where)
            if isinstance(node, ast.Constant):
                self.assertIn(type(node.value), (int, str, bool, type(None)), where)
            if isinstance(node, (ast.For, ast.While)):
                self.assertEqual(node.orelse, [], where)

    def test_names(self):
        for where, node in self.nodes():
            if isinstance(node, ast.Name):
                self.assertFalse(node.id.startswith("_"), where)
                if hasattr(builtins, node.id):
                    self.assertIn(node.id, OWN_NAMES, where)
                    self.assertIsInstance(node.ctx, ast.Load, where)
            if isinstance(node, ast.arg):
                self.assertFalse(hasattr(builtins, node.arg), where)

    def test_methods_of_pythons_own_values(self):
        own = {node.name for where, node in self.nodes() if isinstance(node, ast.FunctionDef)}
        for where, node in self.nodes():
            if isinstance(node, ast.Call) and isinstance(node.func, ast.Attribute):
                self.assertIn(node.func.attr, METHODS | own, where)

    def test_each_name_once_at_a_files_top(self):
        for name, text in self.sources():
            bound = []
            for node in ast.parse(text).body:
                if isinstance(node, (ast.FunctionDef, ast.ClassDef)):
                    bound.append(node.name)
                elif isinstance(node, ast.ImportFrom):
                    bound += [alias.asname or alias.name for alias in node.names]
                elif isinstance(node, ast.Assign):
                    bound += [target.id for target in node.targets]
                else:
                    self.assertIsInstance(node.value, ast.Constant, f"{name}:{node.lineno}")
            self.assertEqual(len(bound), len(set(bound)), name)
            self.no_local_is_called_like(name, text, bound)

    def no_local_is_called_like(self, name, text, bound):
        for top in ast.parse(text).body:
            if isinstance(top, (ast.FunctionDef, ast.ClassDef)):
                for node in ast.walk(top):
                    if isinstance(node, ast.arg):
                        self.assertNotIn(node.arg, bound, f"{name}:{node.lineno}")
                    if isinstance(node, ast.Name) and isinstance(node.ctx, ast.Store):
                        self.assertNotIn(node.id, bound, f"{name}:{node.lineno}")

    def test_imports_are_from_the_file_that_defines_the_name(self):
        for where, node in self.nodes():
            if isinstance(node, ast.ImportFrom):
                source = PACKAGE.parent.joinpath(*node.module.split(".")).with_suffix(".py")
                defined = {getattr(top, "name", None) for top in ast.parse(source.read_text(encoding="utf-8")).body}
                for alias in node.names:
                    self.assertIn(alias.name, defined, where)

    def test_walked_at_once(self):
        walked = []
        for name, text in self.sources():
            for node in ast.walk(ast.parse(text)):
                if isinstance(node, (ast.For, ast.comprehension)):
                    walked.append((name, ast.dump(node.iter, include_attributes=True)))
                if called(node) in WALKING and node.args:
                    walked.append((name, ast.dump(node.args[0], include_attributes=True)))
        for where, node in self.nodes():
            if called(node) in WALKED_AT_ONCE:
                name = where.split(":")[0]
                self.assertIn((name, ast.dump(node, include_attributes=True)), walked, where)

    def test_forms(self):
        for where, node in self.nodes():
            if isinstance(node, ast.Assign):
                self.assertEqual(len(node.targets), 1, where)
            if isinstance(node, ast.ListComp):
                self.assertEqual(len(node.generators), 1, where)
                self.assertLessEqual(len(node.generators[0].ifs), 1, where)
            if isinstance(node, ast.Compare) and any(isinstance(op, (ast.Is, ast.IsNot)) for op in node.ops):
                self.assertTrue(all(isinstance(side, ast.Constant) for side in node.comparators), where)
            if isinstance(node, ast.BinOp) and isinstance(node.op, ast.Pow):
                self.assertIsInstance(node.right, ast.Constant, where)
            if isinstance(node, ast.Constant) and isinstance(node.value, str):
                self.assertNotIn("%", node.value, where)
            if isinstance(node, ast.Try):
                self.assertEqual(node.finalbody, [], where)


if __name__ == "__main__":
    unittest.main()
