"""The form of the package's files: those of the rules L1 to L28 that can be seen by reading the code's tree."""

import ast
import builtins
import re
import unittest
from pathlib import Path

PACKAGE = Path(__file__).resolve().parent.parent / "harvestboat"

STATEMENTS = (
    ast.FunctionDef, ast.ClassDef, ast.ImportFrom, ast.Assign, ast.AugAssign, ast.If, ast.While, ast.For, ast.Return,
    ast.Break, ast.Continue, ast.Pass, ast.Raise, ast.Try, ast.Expr,
)
NOT_WRITTEN = (
    ast.Div, ast.MatMult, ast.Set, ast.SetComp, ast.DictComp, ast.GeneratorExp, ast.NamedExpr, ast.Starred,
    ast.Yield, ast.YieldFrom, ast.Await,
)
PYTHONS_OWN = """
    len range enumerate zip min max sum abs sorted reversed int str bool list tuple dict set frozenset isinstance ord
    repr any all divmod Exception ValueError TypeError KeyError IndexError LookupError ZeroDivisionError
    ArithmeticError OverflowError RuntimeError NotImplementedError StopIteration
""".split()
METHODS = """
    append clear copy count endswith extend find get index insert isalnum isalpha isdigit islower isspace isupper items
    join keys ljust lower lstrip partition pop remove replace reverse rfind rjust rpartition rsplit rstrip setdefault
    split splitlines startswith strip update upper values zfill bit_length
""".split()
WORDS = """
    type typing typing_extensions enum Enum IntEnum StrEnum Flag IntFlag Generic Protocol ABC ABCMeta namedtuple
    NamedTuple TypedDict TYPE_CHECKING abstractmethod
""".split()
NOT_NAMES = "register mro elements open input version_info with_traceback add_note format format_map".split()
UNDERSCORED = "__init__ __eq__ __repr__ __str__ __len__".split()


def files():
    return sorted(PACKAGE.glob("*.py"))


def tree(path):
    return ast.parse(path.read_text(encoding="utf-8"))


def bound_names(node):
    """The names that parameters, locals, functions and classes get anywhere in the tree."""
    for part in ast.walk(node):
        if isinstance(part, ast.arg):
            yield part.arg
        elif isinstance(part, ast.Name) and isinstance(part.ctx, ast.Store):
            yield part.id
        elif isinstance(part, (ast.FunctionDef, ast.ClassDef)):
            yield part.name


def top_names(node):
    """The names that a file binds at its top, but for imports."""
    for part in node.body:
        if isinstance(part, (ast.FunctionDef, ast.ClassDef)):
            yield part.name
        elif isinstance(part, ast.Assign):
            yield part.targets[0].id


class Language(unittest.TestCase):
    def each_part(self):
        for path in files():
            for part in ast.walk(tree(path)):
                yield f"{path.name}, line {getattr(part, 'lineno', 0)}", part

    def test_files_and_signs(self):
        self.assertIn("boat.py", [path.name for path in files()])
        for path in PACKAGE.iterdir():
            if path.name == "__pycache__":
                continue
            with self.subTest(file=path.name):
                self.assertRegex(path.name, r"\A([a-z][a-z0-9_]*|__init__)\.py\Z")
                self.assertNotIn(path.stem, dir(builtins))
                self.assertRegex(path.read_text(encoding="utf-8"), r"\A[ -~\n]*\Z")

    def test_sizes(self):
        for path in files():
            rows = path.read_text(encoding="utf-8").split("\n")
            with self.subTest(file=path.name):
                self.assertLessEqual(len(rows), 400)
                self.assertLessEqual(max(map(len, rows)), 120)
        for where, part in self.each_part():
            if isinstance(part, ast.FunctionDef):
                self.assertLessEqual(part.end_lineno - part.lineno + 1, 40, where)

    def test_words(self):
        for path in files():
            text = path.read_text(encoding="utf-8")
            with self.subTest(file=path.name):
                self.assertEqual([word for word in WORDS if re.search(rf"\b{word}\b", text)], [])
                self.assertEqual(re.findall("dataclass|overload|contextmanager", text), [])

    def test_statements_and_expressions(self):
        for where, part in self.each_part():
            if isinstance(part, ast.stmt):
                self.assertIsInstance(part, STATEMENTS, where)
            self.assertNotIsInstance(part, NOT_WRITTEN, where)
            if isinstance(part, ast.Assign):
                self.assertEqual(len(part.targets), 1, where)
            if isinstance(part, (ast.For, ast.While)):
                self.assertEqual(part.orelse, [], where)
            if isinstance(part, ast.Constant):
                self.assertIn(type(part.value), (int, str, bool, type(None)), where)
            if isinstance(part, ast.ListComp):
                self.assertEqual(len(part.generators), 1, where)
                self.assertLessEqual(len(part.generators[0].ifs), 1, where)
            if isinstance(part, ast.Compare) and any(isinstance(sign, (ast.Is, ast.IsNot)) for sign in part.ops):
                self.assertIsInstance(part.comparators[0], ast.Constant, where)

    def test_functions_and_classes(self):
        for where, part in self.each_part():
            if isinstance(part, ast.FunctionDef):
                given = part.args
                self.assertFalse(given.vararg or given.kwarg or given.kwonlyargs or given.posonlyargs, where)
                self.assertEqual(part.decorator_list, [], where)
            if isinstance(part, ast.ClassDef):
                self.assertEqual(part.decorator_list, [], where)
                self.assertLessEqual(len(part.bases), 1, where)

    def test_the_top_of_a_file(self):
        for path in files():
            node = tree(path)
            self.assertIsNotNone(ast.get_docstring(node), path.name)
            for part in node.body[1:]:
                with self.subTest(file=path.name, line=part.lineno):
                    self.assertIsInstance(part, (ast.ImportFrom, ast.FunctionDef, ast.ClassDef, ast.Assign))
            names = list(top_names(node))
            self.assertEqual(sorted(names), sorted(set(names)), path.name)

    def test_imports(self):
        drawn = {}
        defined = {"harvestboat." + path.stem: list(top_names(tree(path))) for path in files()}
        for path in files():
            rows = [part for part in tree(path).body if isinstance(part, ast.ImportFrom)]
            drawn["harvestboat." + path.stem] = [row.module for row in rows]
            for row in rows:
                with self.subTest(file=path.name, line=row.lineno):
                    self.assertEqual(row.level, 0)
                    self.assertLessEqual({name.name for name in row.names}, set(defined[row.module]))
        # A file may be drawn from once all those that it draws from itself are done: none draws from one another.
        while drawn:
            done = [module for module in drawn if not set(drawn[module]) & set(drawn)]
            self.assertNotEqual(done, [], "files draw from one another")
            drawn = {module: drawn[module] for module in drawn if module not in done}

    def test_names(self):
        for path in files():
            node = tree(path)
            imported = [name.name for part in node.body if isinstance(part, ast.ImportFrom) for name in part.names]
            for name in bound_names(node):
                with self.subTest(file=path.name, name=name):
                    self.assertNotIn(name, [*dir(builtins), *imported, *NOT_NAMES])
                    self.assertTrue(name in UNDERSCORED or re.match(r"[A-Za-z][A-Za-z0-9_]*\Z", name))
        for where, part in self.each_part():
            if isinstance(part, ast.Name) and part.id in dir(builtins):
                self.assertIn(part.id, PYTHONS_OWN, where)

    def test_methods_and_values_of_objects(self):
        methods = {
            part.name for path in files() for top in tree(path).body if isinstance(top, ast.ClassDef)
            for part in top.body if isinstance(part, ast.FunctionDef)
        }
        values = set()
        for where, part in self.each_part():
            if isinstance(part, ast.Attribute):
                self.assertNotIn(part.attr, NOT_NAMES, where)
                if isinstance(part.ctx, ast.Store):
                    values.add(part.attr)
            if isinstance(part, ast.Call) and isinstance(part.func, ast.Attribute):
                self.assertIn(part.func.attr, [*METHODS, *methods], where)
        self.assertEqual(methods & values, set())
        of_pythons_own = {name for kind in (str, int, list, dict, set, bytes) for name in dir(kind)}
        self.assertEqual((methods | values) & of_pythons_own - set(UNDERSCORED), set())


if __name__ == "__main__":
    unittest.main()
