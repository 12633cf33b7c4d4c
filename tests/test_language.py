"""The package's files keep to the part of Python that is asked for, as far as that is plain to see."""

import ast
import re
import unittest
from pathlib import Path

PACKAGE = Path(__file__).resolve().parent.parent / "givenorders"
FILES = sorted(PACKAGE.rglob("*.py"))

NODES = set("""
    Module Expr FunctionDef ClassDef arguments arg ImportFrom alias Assign AugAssign If While For Return Break Continue
    Pass Raise Try ExceptHandler Constant List Tuple Dict Set Name Attribute Subscript Slice Call keyword BinOp UnaryOp
    BoolOp Compare IfExp ListComp comprehension JoinedStr FormattedValue Lambda Load Store
    Add Sub Mult FloorDiv Mod Pow BitAnd BitOr BitXor LShift RShift Invert USub UAdd Not And Or
    Eq NotEq Lt LtE Gt GtE In NotIn Is IsNot
""".split())
OWN_NAMES = set("""
    len range enumerate zip min max sum abs sorted reversed int str bool list tuple dict set frozenset isinstance ord
    repr any all divmod Exception ValueError TypeError KeyError IndexError LookupError ZeroDivisionError
    ArithmeticError OverflowError RuntimeError NotImplementedError AttributeError StopIteration
""".split())
METHODS = set("""
    append clear copy count endswith extend find get index insert isalnum isalpha isdigit islower isspace isupper items
    join keys ljust lower lstrip partition pop remove replace reverse rfind rjust rpartition rsplit rstrip setdefault
    split splitlines startswith strip update upper values zfill bit_length
""".split())
UNUSED_NAMES = set("""
    register mro elements open input version_info with_traceback add_note format format_map
""".split())
UNUSED_WORDS = re.compile(
    r"\b(type|typing|typing_extensions|enum|Enum|IntEnum|StrEnum|Flag|IntFlag|Generic|Protocol|ABC|ABCMeta|namedtuple"
    r"|NamedTuple|TypedDict|TYPE_CHECKING|abstractmethod)\b|dataclass|overload|contextmanager")
UNDERSCORED = {"__init__", "__eq__", "__repr__", "__str__", "__len__", "__all__", "__version__"}


def names_bound(tree):
    """Every name that the file binds, wherever."""
    names = []
    for node in ast.walk(tree):
        if isinstance(node, (ast.FunctionDef, ast.ClassDef)):
            names.append(node.name)
        elif isinstance(node, ast.arg):
            names.append(node.arg)
        elif isinstance(node, ast.alias):
            names.append(node.asname or node.name)
        elif isinstance(node, ast.Name) and isinstance(node.ctx, ast.Store):
            names.append(node.id)
    return names


class Language(unittest.TestCase):
    def each(self):
        """Each file of the package: its path, its text, its tree."""
        for path in FILES:
            text = path.read_text(encoding="utf-8")
            yield path, text, ast.parse(text)

    def test_files(self):
        self.assertIn(PACKAGE / "__init__.py", FILES)
        for path in PACKAGE.rglob("*"):
            if "__pycache__" not in path.parts:
                self.assertRegex(path.name, r"^[a-z0-9_]+(\.py)?$")

    def test_signs_and_sizes(self):
        for path, text, tree in self.each():
            self.assertRegex(text, r"\A[ -~\n]*\Z")
            self.assertLessEqual(len(text.splitlines()), 400)
            self.assertLessEqual(max(map(len, text.splitlines())), 120)
            for node in ast.walk(tree):
                if isinstance(node, ast.FunctionDef):
                    self.assertLessEqual(node.end_lineno - node.lineno + 1, 40, node.name)

    def test_unused_words(self):
        for path, text, tree in self.each():
            self.assertIsNone(UNUSED_WORDS.search(text))

    def test_imports(self):
        for path, text, tree in self.each():
            for node in ast.walk(tree):
                if isinstance(node, ast.ImportFrom):
                    self.assertIn(node, tree.body)
                    self.assertEqual(node.level, 0)
                    self.assertTrue(node.module.startswith("givenorders."), node.module)

    def test_statements_and_expressions(self):
        for path, text, tree in self.each():
            for node in ast.walk(tree):
                self.assertIn(node.__class__.__name__, NODES, getattr(node, "lineno", None))
                if isinstance(node, (ast.FunctionDef, ast.ClassDef)):
                    self.assertEqual(node.decorator_list, [])
                if isinstance(node, (ast.For, ast.While)):
                    self.assertEqual(node.orelse, [])
                if isinstance(node, ast.Assign):
                    self.assertEqual(len(node.targets), 1)
                if isinstance(node, ast.Constant):
                    self.assertIsInstance(node.value, (int, str, bool, None.__class__))

    def test_comprehensions_and_powers(self):
        for path, text, tree in self.each():
            for node in ast.walk(tree):
                if isinstance(node, ast.ListComp):
                    self.assertEqual(len(node.generators), 1)
                    self.assertLessEqual(len(node.generators[0].ifs), 1)
                if isinstance(node, ast.BinOp) and isinstance(node.op, ast.Pow):
                    self.assertIsInstance(node.right, ast.Constant)
                if isinstance(node, ast.Compare) and any(isinstance(op, (ast.Is, ast.IsNot)) for op in node.ops):
                    self.assertTrue(all(isinstance(side, ast.Constant) for side in node.comparators))

    def test_sets_are_used_on_the_spot(self):
        for path, text, tree in self.each():
            parents = {child: node for node in ast.walk(tree) for child in ast.iter_child_nodes(node)}
            for node in ast.walk(tree):
                self.assertNotIsInstance(node, ast.Set)
                if isinstance(node, ast.Call) and isinstance(node.func, ast.Name) and node.func.id == "set":
                    above = parents[node]
                    while isinstance(above, ast.BinOp):
                        above = parents[above]
                    within = isinstance(above, ast.Call) and isinstance(above.func, ast.Name)
                    self.assertTrue(isinstance(above, ast.Compare) or (within and above.func.id in ("sorted", "len")))

    def test_imports_are_from_the_file_that_defines(self):
        drawn, tops = {}, {}
        for path, text, tree in self.each():
            name = "givenorders." + path.stem
            tops[name] = [node.name for node in tree.body if isinstance(node, (ast.FunctionDef, ast.ClassDef))]
            tops[name] += [node.targets[0].id for node in tree.body if isinstance(node, ast.Assign)]
            self.assertEqual(len(tops[name]), len(set(tops[name])))
            drawn[name] = [(node.module, alias) for node in tree.body if isinstance(node, ast.ImportFrom)
                           for alias in node.names]
        for name, rows in drawn.items():
            for module, alias in rows:
                self.assertIn(alias.name, tops[module])
        seen = {}
        while len(seen) < len(drawn):
            ready = [name for name, rows in drawn.items() if name not in seen and all(m in seen for m, alias in rows)]
            self.assertTrue(ready, "files draw from one another")
            seen.update(dict.fromkeys(ready))

    def test_imports_are_used_and_not_hidden(self):
        for path, text, tree in self.each():
            taken = [alias.name for node in tree.body if isinstance(node, ast.ImportFrom) for alias in node.names]
            used = {node.id for node in ast.walk(tree) if isinstance(node, ast.Name) and isinstance(node.ctx, ast.Load)}
            self.assertLessEqual(set(taken), used, path)
            bound = names_bound(tree)
            for name in taken + [node.name for node in tree.body if isinstance(node, ast.ClassDef)]:
                self.assertEqual(bound.count(name), 1, name)

    def test_methods_and_values_apart(self):
        methods, kept = set(), set()
        for path, text, tree in self.each():
            for node in ast.walk(tree):
                if isinstance(node, ast.ClassDef):
                    methods |= {part.name for part in node.body if isinstance(part, ast.FunctionDef)}
                if isinstance(node, ast.Attribute) and isinstance(node.ctx, ast.Store):
                    kept.add(node.attr)
        self.assertEqual(methods & kept, set())
        for kind in (str, int, list, dict, set, tuple, bytes):
            self.assertEqual(kept & set(dir(kind)) - {"count", "index", "title", "find", "get", "join", "copy"}, set())

    def test_names(self):
        python_names = set(dir(__builtins__) if not isinstance(__builtins__, dict) else __builtins__)
        for path, text, tree in self.each():
            bound = names_bound(tree)
            for name in bound:
                self.assertNotIn(name, python_names | UNUSED_NAMES)
                self.assertTrue(name in UNDERSCORED or re.match(r"[A-Za-z][A-Za-z0-9_]*$", name), name)
            for node in ast.walk(tree):
                if isinstance(node, ast.Name) and isinstance(node.ctx, ast.Load):
                    self.assertIn(node.id, OWN_NAMES | set(bound))

    def test_methods(self):
        own = set()
        for path, text, tree in self.each():
            own |= {node.name for node in ast.walk(tree) if isinstance(node, ast.FunctionDef)}
        for path, text, tree in self.each():
            for node in ast.walk(tree):
                if isinstance(node, ast.Attribute):
                    self.assertNotIn(node.attr, UNUSED_NAMES)
                if isinstance(node, ast.Call) and isinstance(node.func, ast.Attribute):
                    self.assertIn(node.func.attr, METHODS | own)


if __name__ == "__main__":
    unittest.main()
