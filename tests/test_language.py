"""The package's files against the rules of the language that can be seen from the files alone."""

import ast
import builtins
import re
import unittest
from pathlib import Path

PACKAGE = Path(__file__).resolve().parent.parent / "gridwave"
FILES = sorted(PACKAGE.rglob("*.py"))

# L8: Python's own names that may be used.
ALLOWED = set("""len range enumerate zip min max sum abs sorted reversed int str bool list tuple dict set frozenset
isinstance ord repr any all divmod Exception ValueError TypeError KeyError IndexError LookupError ZeroDivisionError
ArithmeticError OverflowError RuntimeError NotImplementedError AttributeError StopIteration""".split())

# L25: the methods of Python's own values that may be called.
METHODS = set("""append clear copy count endswith extend find get index insert isalnum isalpha isdigit islower isspace
isupper items join keys ljust lower lstrip partition pop remove replace reverse rfind rjust rpartition rsplit rstrip
setdefault split splitlines startswith strip update upper values zfill bit_length""".split())

# L17: words that stand nowhere.
WORDS = set("""type typing typing_extensions enum Enum IntEnum StrEnum Flag IntFlag Generic Protocol ABC ABCMeta
namedtuple NamedTuple TypedDict TYPE_CHECKING abstractmethod""".split())
LONGER = ("dataclass", "overload", "contextmanager")
UNUSED = set("register mro elements open input version_info with_traceback add_note format format_map".split())

# L4 to L7, L21: what may stand in a file at all.
NODES = tuple(getattr(ast, name) for name in """Module Expr Constant ImportFrom alias FunctionDef arguments arg ClassDef
Assign AugAssign If While For Return Break Continue Pass Raise Try ExceptHandler Call keyword Name Load Store Attribute
Subscript Slice List Tuple Dict Set ListComp comprehension BinOp Add Sub Mult FloorDiv Mod Pow BitAnd BitOr BitXor LShift
RShift UnaryOp USub UAdd Not Invert BoolOp And Or Compare Eq NotEq Lt LtE Gt GtE In NotIn Is IsNot IfExp Lambda JoinedStr
FormattedValue""".split())


def trees():
    return [(path, ast.parse(path.read_text())) for path in FILES]


def is_plain(node, known):
    """L3: a plain value, or a list, tuple or dict of such and of functions above."""
    if isinstance(node, ast.UnaryOp):
        return isinstance(node.op, ast.USub) and isinstance(node.operand, ast.Constant)
    if isinstance(node, ast.Constant):
        return node.value is None or isinstance(node.value, (int, str))
    if isinstance(node, (ast.List, ast.Tuple)):
        return all(is_plain(part, known) or isinstance(part, ast.Name) and part.id in known for part in node.elts)
    if isinstance(node, ast.Dict):
        return all(is_plain(part, known) or isinstance(part, ast.Name) and part.id in known
                   for part in node.keys + node.values)
    return False


class Language(unittest.TestCase):
    def test_files(self):
        for path in PACKAGE.rglob("*"):
            if path.name == "__pycache__" or path.parent.name == "__pycache__":
                continue
            with self.subTest(path=path.name):
                self.assertRegex(path.name, r"^[a-z0-9_]+\.py$")
                self.assertNotIn(path.stem, dir(builtins))
        self.assertTrue((PACKAGE / "__init__.py").is_file())

    def test_signs_words_and_sizes(self):
        for path in FILES:
            text = path.read_text()
            with self.subTest(path=path.name):
                self.assertIsNone(re.search(r"[^ -~\n]", text))
                self.assertFalse(WORDS & set(re.findall(r"\w+", text)))
                self.assertFalse([word for word in LONGER if word in text])
                self.assertLessEqual(len(text.splitlines()), 400)
                self.assertLessEqual(max(len(row) for row in text.splitlines()), 120)

    def test_what_stands_there(self):
        for path, tree in trees():
            for node in ast.walk(tree):
                with self.subTest(path=path.name, line=getattr(node, "lineno", 0), node=type(node).__name__):
                    self.assertIsInstance(node, NODES)
                    if isinstance(node, ast.Constant):
                        self.assertIsInstance(node.value, (int, str, type(None)))
                    if isinstance(node, ast.Assign):
                        self.assertEqual(len(node.targets), 1)
                        self.assertNotIsInstance(node.targets[0], (ast.Tuple, ast.List))
                    if isinstance(node, (ast.For, ast.While)):
                        self.assertEqual(node.orelse, [])
                    if isinstance(node, ast.Try):
                        self.assertEqual(node.finalbody, [])
                    if isinstance(node, ast.ListComp):
                        self.assertEqual(len(node.generators), 1)
                        self.assertLessEqual(len(node.generators[0].ifs), 1)
                    if isinstance(node, ast.BinOp) and isinstance(node.op, ast.Pow):
                        self.assertIsInstance(node.right, ast.Constant)
                    if isinstance(node, ast.Compare) and isinstance(node.ops[0], (ast.Is, ast.IsNot)):
                        self.assertIsInstance(node.comparators[0], ast.Constant)

    def test_defs(self):
        for path, tree in trees():
            for node in ast.walk(tree):
                if not isinstance(node, (ast.FunctionDef, ast.ClassDef)):
                    continue
                with self.subTest(path=path.name, name=node.name):
                    self.assertEqual(node.decorator_list, [])
                    self.assertIsNotNone(ast.get_docstring(node) or node.name == "__init__" or None)
                    if isinstance(node, ast.FunctionDef):
                        self.assertLessEqual(node.end_lineno - node.lineno + 1, 40)
                        self.assertIsNone(node.args.vararg)
                        self.assertIsNone(node.args.kwarg)
                        self.assertEqual(node.args.kwonlyargs + node.args.posonlyargs, [])

    def test_the_top(self):
        for path, tree in trees():
            bound = []
            for place, node in enumerate(tree.body):
                with self.subTest(path=path.name, line=node.lineno):
                    if isinstance(node, ast.ImportFrom):
                        self.assertEqual(node.level, 0)
                        self.assertTrue(node.module.startswith("gridwave."))
                        bound += [alias.name for alias in node.names]
                    elif isinstance(node, (ast.FunctionDef, ast.ClassDef)):
                        bound.append(node.name)
                    elif isinstance(node, ast.Assign):
                        self.assertTrue(is_plain(node.value, bound))
                        bound.append(node.targets[0].id)
                    else:
                        self.assertEqual(place, 0)
                        self.assertIsNotNone(ast.get_docstring(tree))
            self.assertEqual(len(bound), len(set(bound)), path.name)

    def test_imports_name_the_file_that_defines_and_make_no_ring(self):
        drawn = {path.stem: set() for path in FILES}
        defined = {}
        for path, tree in trees():
            names = [node.name for node in tree.body if isinstance(node, (ast.FunctionDef, ast.ClassDef))]
            names += [node.targets[0].id for node in tree.body if isinstance(node, ast.Assign)]
            defined[path.stem] = set(names)
        for path, tree in trees():
            for node in ast.walk(tree):
                if isinstance(node, ast.ImportFrom):
                    stem = node.module.split(".")[-1]
                    drawn[path.stem].add(stem)
                    for alias in node.names:
                        self.assertIn(alias.name, defined[stem])
                        self.assertIsNone(alias.asname)
        while drawn:
            free = [stem for stem in drawn if not drawn[stem] & set(drawn)]
            self.assertTrue(free, drawn)
            for stem in free:
                del drawn[stem]

    def test_names(self):
        own = {node.name for _, tree in trees() for node in ast.walk(tree) if isinstance(node, ast.FunctionDef)}
        for path, tree in trees():
            taken = {node.name for node in tree.body if isinstance(node, ast.ClassDef)}
            taken |= {alias.name for node in tree.body if isinstance(node, ast.ImportFrom) for alias in node.names}
            for node in ast.walk(tree):
                with self.subTest(path=path.name, line=getattr(node, "lineno", 0)):
                    if isinstance(node, ast.Name) and isinstance(node.ctx, ast.Load) and node.id in dir(builtins):
                        self.assertIn(node.id, ALLOWED)
                    given = node.arg if isinstance(node, ast.arg) else None
                    if isinstance(node, ast.Name) and isinstance(node.ctx, ast.Store):
                        given = node.id
                    if given is not None:
                        self.assertNotIn(given, taken)
                        self.assertNotIn(given, dir(builtins))
                        self.assertRegex(given, r"^[A-Za-z][A-Za-z0-9_]*$")
                        self.assertNotIn(given, UNUSED)
                    if isinstance(node, (ast.FunctionDef, ast.ClassDef)) and node.name != "__init__":
                        self.assertNotIn(node.name, dir(builtins))
                        self.assertRegex(node.name, r"^[A-Za-z][A-Za-z0-9_]*$")
                    if isinstance(node, ast.Attribute):
                        self.assertNotIn(node.attr, UNUSED)
                    if isinstance(node, ast.Call) and isinstance(node.func, ast.Attribute):
                        self.assertIn(node.func.attr, METHODS | own)

    def test_methods_and_values_have_names_of_their_own(self):
        methods, values = set(), set()
        foreign = set()
        for kind in (str, int, list, dict, set, bytes, tuple):
            foreign |= set(dir(kind))
        for _, tree in trees():
            for node in ast.walk(tree):
                if isinstance(node, ast.ClassDef):
                    methods |= {part.name for part in node.body if isinstance(part, ast.FunctionDef)}
                if isinstance(node, ast.Attribute) and isinstance(node.ctx, ast.Store):
                    values.add(node.attr)
        self.assertFalse(methods & values)
        self.assertFalse((methods - {"__init__"} | values) & foreign)


if __name__ == "__main__":
    unittest.main()
