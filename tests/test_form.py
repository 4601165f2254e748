"""The form that LANGUAGE.md asks of the package's files, as far as it can be read off them."""

import ast
import builtins
import pathlib
import re
import unittest

PACKAGE = pathlib.Path(__file__).resolve().parent.parent / "lanewise"
FILES = sorted(path for path in PACKAGE.rglob("*") if "__pycache__" not in path.parts)
OWN_NAMES = set("""len range enumerate zip min max sum abs sorted reversed int str bool list tuple dict set frozenset
    isinstance ord repr any all divmod Exception ValueError TypeError KeyError IndexError LookupError
    ZeroDivisionError ArithmeticError OverflowError RuntimeError NotImplementedError StopIteration""".split())
OWN_METHODS = set("""append clear copy count endswith extend find get index insert isalnum isalpha isdigit islower
    isspace isupper items join keys ljust lower lstrip partition pop remove replace reverse rfind rjust rpartition
    rsplit rstrip setdefault split splitlines startswith strip update upper values zfill bit_length""".split())
WALKED = {"zip", "enumerate", "reversed", "range"}
NODES = set("""Module Expr FunctionDef ClassDef arguments arg Return Assign AugAssign If While For Break Continue Pass
    Raise Try ExceptHandler Call Constant Name Attribute Subscript Slice List Tuple Dict Set ListComp comprehension
    IfExp BoolOp And Or UnaryOp Not USub Invert BinOp Add Sub Mult FloorDiv Mod Pow BitAnd BitOr BitXor LShift RShift
    Compare Eq NotEq Lt LtE Gt GtE Is IsNot In NotIn Lambda JoinedStr FormattedValue ImportFrom alias Load Store
    keyword""".split())
WORDS = re.compile(r"\b(type|typing|typing_extensions|enum|Enum|IntEnum|StrEnum|Flag|IntFlag|Generic|Protocol|ABC"
                   r"|ABCMeta|namedtuple|NamedTuple|TypedDict|TYPE_CHECKING|abstractmethod)\b"
                   r"|dataclass|overload|contextmanager")
NOT_USED = set("""register mro elements open input version_info with_traceback add_note format format_map""".split())


def tree(path):
    return ast.parse(path.read_text(encoding="ascii"))


def bound_names(node):
    """Names that a function binds: its parameters and its locals."""
    for inner in ast.walk(node):
        if isinstance(inner, ast.arg):
            yield inner.arg
        elif isinstance(inner, ast.Name) and isinstance(inner.ctx, ast.Store):
            yield inner.id


def imported(module):
    return [alias.name for node in module.body if isinstance(node, ast.ImportFrom) for alias in node.names]


class Form(unittest.TestCase):
    def test_files(self):
        self.assertIn(PACKAGE / "__init__.py", FILES)
        for path in FILES:
            self.assertTrue(path.is_file(), path)
            self.assertRegex(path.name, r"^([a-z][a-z0-9_]*|__init__)\.py$")
            self.assertNotIn(path.stem, dir(builtins))
            self.assertNotRegex(path.stem, r"^(test.*|site|conftest|sitecustomize|usercustomize)$")

    def test_signs_and_sizes(self):
        for path in FILES:
            text = path.read_text(encoding="ascii")
            self.assertRegex(text, r"\A[\n -~]*\Z", path)
            rows = text.split("\n")
            self.assertLessEqual(len(rows), 400, path)
            self.assertLessEqual(max(len(row) for row in rows), 120, path)
            self.assertIsNone(WORDS.search(text), path)
            for node in ast.walk(tree(path)):
                if isinstance(node, ast.FunctionDef):
                    self.assertLessEqual(node.end_lineno - node.lineno + 1, 40, (path, node.name))

    def test_every_step_is_of_the_plain_kinds(self):
        for path in FILES:
            for node in ast.walk(tree(path)):
                shown = (path.name, getattr(node, "lineno", 0), type(node).__name__)
                self.assertIn(type(node).__name__, NODES, shown)
                if isinstance(node, ast.FunctionDef):
                    self.assertFalse(node.decorator_list or node.args.vararg or node.args.kwarg, shown)
                    self.assertFalse(node.args.kwonlyargs or node.args.posonlyargs or node.returns, shown)
                if isinstance(node, ast.Assign):
                    self.assertEqual(len(node.targets), 1, shown)
                    self.assertIsInstance(node.targets[0], (ast.Name, ast.Attribute, ast.Subscript), shown)
                if isinstance(node, (ast.For, ast.While)):
                    self.assertFalse(node.orelse, shown)
                if isinstance(node, ast.ListComp):
                    self.assertEqual(len(node.generators), 1, shown)
                    self.assertLessEqual(len(node.generators[0].ifs), 1, shown)
                if isinstance(node, ast.BinOp):
                    self.assertNotIsInstance(node.op, ast.Pow, shown)
                if isinstance(node, ast.Constant):
                    self.assertIn(type(node.value), (int, str, bool, type(None)), shown)
                    self.assertNotIn("%", str(node.value), shown)
                if isinstance(node, ast.Compare):
                    for operator, side in zip(node.ops, node.comparators):
                        if isinstance(operator, (ast.Is, ast.IsNot)):
                            self.assertIsInstance(side, ast.Constant, shown)

    def test_imports(self):
        drawn = {}
        for path in FILES:
            drawn[path.stem] = []
            for node in ast.walk(tree(path)):
                if isinstance(node, ast.ImportFrom):
                    self.assertEqual(node.level, 0)
                    self.assertRegex(node.module, r"^lanewise\.[a-z_]+$")
                    source = node.module.split(".")[1]
                    tops = [top.name for top in tree(PACKAGE / (source + ".py")).body if hasattr(top, "name")]
                    for alias in node.names:
                        self.assertIsNone(alias.asname)
                        self.assertIn(alias.name, tops, path)
                    drawn[path.stem].append(source)
        while drawn:
            free = [stem for stem in drawn if not [source for source in drawn[stem] if source in drawn]]
            self.assertTrue(free, ("files draw from one another", drawn))
            for stem in free:
                drawn.pop(stem)

    def test_names(self):
        for path in FILES:
            module = tree(path)
            tops = [node.name for node in module.body if isinstance(node, (ast.FunctionDef, ast.ClassDef))]
            tops += [node.targets[0].id for node in module.body if isinstance(node, ast.Assign)]
            tops += imported(module)
            self.assertEqual(len(tops), len(set(tops)), path)
            classes = [node.name for node in ast.walk(module) if isinstance(node, ast.ClassDef)]
            taken = set(imported(module)) | set(classes) | set(dir(builtins))
            for node in module.body:
                if isinstance(node, (ast.FunctionDef, ast.ClassDef)):
                    self.assertEqual(sorted(set(bound_names(node)) & taken), [], (path.name, node.name))
            for node in ast.walk(module):
                if isinstance(node, ast.Name):
                    self.assertRegex(node.id, r"^[A-Za-z][A-Za-z0-9_]*$")
                    if node.id in dir(builtins):
                        self.assertIn(node.id, OWN_NAMES, (path.name, node.lineno))
                    self.assertNotIn(node.id, NOT_USED)
                if isinstance(node, ast.Attribute):
                    self.assertNotIn(node.attr, NOT_USED)

    def test_every_import_is_used(self):
        for path in FILES:
            module = tree(path)
            used = {node.id for node in ast.walk(module) if isinstance(node, ast.Name)}
            self.assertEqual([name for name in imported(module) if name not in used], [], path.name)

    def test_methods(self):
        own = set()
        for path in FILES:
            for node in ast.walk(tree(path)):
                if isinstance(node, ast.ClassDef):
                    own |= {method.name for method in node.body if isinstance(method, ast.FunctionDef)}
        for path in FILES:
            for node in ast.walk(tree(path)):
                if isinstance(node, ast.Call) and isinstance(node.func, ast.Attribute):
                    self.assertIn(node.func.attr, own | OWN_METHODS, (path.name, node.lineno))

    def test_no_method_is_called_like_a_value(self):
        methods, kept = set(), set()
        for path in FILES:
            for node in ast.walk(tree(path)):
                if isinstance(node, ast.ClassDef):
                    methods |= {method.name for method in node.body if isinstance(method, ast.FunctionDef)}
                if isinstance(node, ast.Attribute) and isinstance(node.ctx, ast.Store):
                    kept.add(node.attr)
        self.assertEqual(sorted(methods & kept), [])
        for name in sorted((methods | kept) - {"__init__"}):
            for kind in (str, int, list, dict, set, bytes, tuple):
                self.assertFalse(hasattr(kind, name), name)

    def test_what_is_walked_is_walked_on_the_spot(self):
        for path in FILES:
            module = tree(path)
            walked = [id(node.iter) for node in ast.walk(module) if isinstance(node, (ast.For, ast.comprehension))]
            for node in ast.walk(module):
                if isinstance(node, ast.Call) and isinstance(node.func, ast.Name) and node.func.id in WALKED:
                    self.assertIn(id(node), walked, (path.name, node.lineno))

    def test_tables_at_the_top_are_only_read(self):
        for path in FILES:
            module = tree(path)
            tables = [node.targets[0].id for node in module.body
                      if isinstance(node, ast.Assign) and isinstance(node.value, (ast.Dict, ast.List, ast.Tuple))]
            read = []
            for node in ast.walk(module):
                if isinstance(node, ast.Subscript) and isinstance(node.ctx, ast.Load):
                    read.append(id(node.value))
                if isinstance(node, ast.Attribute) and node.attr == "get":
                    read.append(id(node.value))
                if isinstance(node, ast.Compare) and isinstance(node.ops[0], (ast.In, ast.NotIn)):
                    read.append(id(node.comparators[0]))
            for node in ast.walk(module):
                if isinstance(node, ast.Name) and isinstance(node.ctx, ast.Load) and node.id in tables:
                    self.assertIn(id(node), read, (path.name, node.lineno))


if __name__ == "__main__":
    unittest.main()
