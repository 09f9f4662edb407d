"""The rules of the language subset that can be seen in single files."""

import ast
import builtins
import pathlib
import re
import unittest

ROOT = pathlib.Path(__file__).resolve().parent.parent
PACKAGE = ROOT / "quietsmith"
FILES = sorted(PACKAGE.rglob("*.py"))

STATEMENTS = (
    ast.Expr, ast.Assign, ast.AugAssign, ast.If, ast.While, ast.For, ast.Return, ast.Break,
    ast.Continue, ast.Pass, ast.Raise, ast.Assert, ast.Delete, ast.Try, ast.FunctionDef,
    ast.ClassDef, ast.ImportFrom,
)
NO_NODES = (
    ast.Global, ast.Nonlocal, ast.AsyncFunctionDef, ast.Await, ast.Yield, ast.YieldFrom, ast.Div,
    ast.MatMult, ast.Import, ast.AnnAssign, ast.NamedExpr,
)
BUILTINS = (
    "len range enumerate zip min max sum abs sorted reversed int str bool list tuple dict set "
    "isinstance ord repr any all divmod super Exception ValueError TypeError KeyError IndexError "
    "LookupError ZeroDivisionError"
).split()
METHODS = (
    "append clear copy count endswith extend find get index insert isalnum isalpha isdigit islower "
    "isspace isupper items join keys ljust lower lstrip partition pop remove replace reverse rfind "
    "rjust rpartition rsplit rstrip setdefault split splitlines startswith strip update upper values "
    "zfill bit_length"
).split()
NO_NAMES = (
    "mro elements open input law version_info with_traceback add_note register attrgetter breakpoint "
    "builtins compile copyright credits delattr dir eval exec exit gc getattr globals hasattr help id "
    "importlib license locals methodcaller os quit setattr type vars sys"
).split()
NO_WORDS = re.compile(
    r"\b(typing|typing_extensions|enum|Enum|IntEnum|StrEnum|Flag|IntFlag|Generic|Protocol|ABC|ABCMeta|"
    r"namedtuple|NamedTuple|TypedDict|TYPE_CHECKING|abstractmethod|_wall|_WallAttr)\b"
    r"|dataclass|overload|contextmanager")


def tree_of(file):
    return ast.parse(file.read_text(encoding="utf-8"))


def bound_names(tree):
    """The names that a file gives a meaning."""
    for node in ast.walk(tree):
        if isinstance(node, ast.Name) and not isinstance(node.ctx, ast.Load):
            yield node.id
        elif isinstance(node, (ast.FunctionDef, ast.ClassDef)):
            yield node.name
        elif isinstance(node, ast.arg):
            yield node.arg
        elif isinstance(node, ast.alias):
            yield node.asname or node.name
        elif isinstance(node, ast.ExceptHandler) and node.name:
            yield node.name


def methods_of(tree):
    return [inner for node in ast.walk(tree) if isinstance(node, ast.ClassDef)
            for inner in node.body if isinstance(inner, ast.FunctionDef)]


class LanguageTest(unittest.TestCase):
    def test_files(self):
        self.assertTrue(FILES)
        for path in PACKAGE.rglob("*"):
            if "__pycache__" not in path.parts:
                self.assertEqual(path.suffix, ".py", path)
                self.assertRegex(path.stem, r"^(__init__|[a-z][a-z0-9_]*)$")

    def test_sizes_and_characters(self):
        for file in FILES:
            text = file.read_text(encoding="utf-8")
            self.assertRegex(text, r"\A[ -~\n]*\Z", file)
            self.assertIsNone(NO_WORDS.search(text), file)
            self.assertLessEqual(len(text.splitlines()), 399, file)
            for line in text.splitlines():
                self.assertLessEqual(len(line), 120, (file, line))
            for node in ast.walk(tree_of(file)):
                if isinstance(node, ast.FunctionDef):
                    self.assertLessEqual(node.end_lineno - node.lineno + 1, 40, (file, node.name))
                    self.assertEqual(node.decorator_list, [])

    def test_statements(self):
        for file in FILES:
            for node in ast.walk(tree_of(file)):
                if isinstance(node, ast.stmt):
                    self.assertIsInstance(node, STATEMENTS, (file, node.lineno))
                self.assertNotIsInstance(node, NO_NODES, file)
                if isinstance(node, ast.Constant):
                    self.assertNotIsInstance(node.value, (float, complex, bytes), (file, node.lineno))
                if isinstance(node, ast.Try):
                    self.assertEqual(node.finalbody, [])
                if isinstance(node, ast.ExceptHandler):
                    self.assertIsInstance(node.type, ast.Name, (file, node.lineno))
                if isinstance(node, ast.BinOp) and isinstance(node.op, ast.Pow):
                    self.assertIsInstance(node.right, ast.Constant, (file, node.lineno))
                    self.assertLessEqual(node.right.value, 64)

    def test_stars_in_calls(self):
        for file in FILES:
            for node in ast.walk(tree_of(file)):
                for argument in node.args if isinstance(node, ast.Call) else []:
                    if isinstance(argument, ast.Starred):
                        self.assertIsInstance(argument.value, (ast.Name, ast.Tuple, ast.List), (file, node.lineno))

    def test_module_level(self):
        for file in FILES:
            names = []
            for at, node in enumerate(tree_of(file).body):
                if isinstance(node, ast.Expr):
                    self.assertEqual(at, 0, file)
                    self.assertIsInstance(node.value, ast.Constant)
                elif isinstance(node, ast.Assign):
                    self.assertIsInstance(node.targets[0], ast.Name)
                    names.append(node.targets[0].id)
                    for inner in ast.walk(node.value):
                        self.assertNotIsInstance(inner, (ast.Call, ast.ListComp, ast.Lambda, ast.Set))
                elif isinstance(node, ast.ImportFrom):
                    names.extend(alias.name for alias in node.names)
                else:
                    self.assertIsInstance(node, (ast.FunctionDef, ast.ClassDef), file)
                    names.append(node.name)
            self.assertEqual(len(names), len(set(names)), file)

    def test_imports(self):
        after = {}
        for file in FILES:
            after[file.stem] = []
            for node in ast.walk(tree_of(file)):
                if isinstance(node, ast.ImportFrom) and node.module == "heapq":
                    self.check_heaps(file, node)
                elif isinstance(node, ast.ImportFrom):
                    self.assertEqual(node.level, 0)
                    self.assertRegex(node.module, r"^quietsmith\.[a-z]+$")
                    stem = node.module.split(".")[1]
                    after[file.stem].append(stem)
                    known = list(bound_names(ast.Module(
                        [inner for inner in tree_of(PACKAGE / (stem + ".py")).body
                         if not isinstance(inner, ast.ImportFrom)], [])))
                    for alias in node.names:
                        self.assertIsNone(alias.asname)
                        self.assertIn(alias.name, known)
        while after:
            free = [stem for stem in after if not after[stem]]
            self.assertTrue(free, after)
            after = {stem: [other for other in after[stem] if other not in free]
                     for stem in after if stem not in free}

    def check_heaps(self, file, node):
        """The functions of heapq are called by their bare names, with a list and an item, and nothing else."""
        names = [alias.name for alias in node.names]
        self.assertLessEqual(set(names), {"heappush", "heappop"}, file)
        calls = [inner for inner in ast.walk(tree_of(file)) if isinstance(inner, ast.Call)
                 and isinstance(inner.func, ast.Name) and inner.func.id in names]
        self.assertEqual([call.keywords for call in calls], [[]] * len(calls))
        uses = [inner for inner in ast.walk(tree_of(file)) if isinstance(inner, ast.Name) and inner.id in names]
        self.assertEqual(len(uses), len(calls), file)

    def test_names(self):
        for file in FILES:
            tree = tree_of(file)
            methods = [method.name for method in methods_of(tree)]
            imported = [alias.name for node in ast.walk(tree) if isinstance(node, ast.ImportFrom)
                        for alias in node.names]
            for name in bound_names(tree):
                self.assertRegex(name, r"^(_?[A-Za-z][A-Za-z0-9_]*|_|__init__)$", file)
                self.assertNotIn(name, NO_NAMES, file)
                self.assertFalse(name != "__init__" and hasattr(builtins, name), (file, name))
            for node in ast.walk(tree):
                if isinstance(node, ast.arg) or isinstance(node, ast.Name) and isinstance(node.ctx, ast.Store):
                    name = node.arg if isinstance(node, ast.arg) else node.id
                    self.assertNotIn(name, imported, file)
                if isinstance(node, ast.Attribute):
                    self.assertNotIn(node.attr, NO_NAMES, file)
            self.assertEqual([name for name in methods if name in METHODS], [], file)

    def test_builtins_and_methods(self):
        own = {method.name for file in FILES for method in methods_of(tree_of(file))}
        for file in FILES:
            tree = tree_of(file)
            bound = set(bound_names(tree))
            for node in ast.walk(tree):
                if isinstance(node, ast.Name) and isinstance(node.ctx, ast.Load) and node.id not in bound:
                    self.assertIn(node.id, BUILTINS, (file, node.lineno))
                if isinstance(node, ast.Call) and isinstance(node.func, ast.Attribute):
                    self.assertIn(node.func.attr, list(own) + METHODS, (file, node.lineno))

    def test_methods_and_attributes(self):
        """No method or attribute is called like one of the builtin values, but for those that L26 lists."""
        taken = {name for kind in (str, int, list, dict, set, bytes) for name in dir(kind)}
        methods = {}
        attributes = set()
        for file in FILES:
            for node in ast.walk(tree_of(file)):
                if isinstance(node, ast.ClassDef):
                    for method in node.body:
                        if isinstance(method, ast.FunctionDef) and method.name != "__init__":
                            methods.setdefault(method.name, []).append(node.name)
                if isinstance(node, ast.Attribute) and isinstance(node.ctx, ast.Store):
                    attributes.add(node.attr)
        self.assertEqual(taken & set(methods), {"add"})
        self.assertEqual(taken & attributes, {"index"})
        self.assertEqual(attributes & set(methods), set())

    def test_stored_sets(self):
        """Block.add is a method, so L24 lets no set have `add`: no set is stored at all."""
        for file in FILES:
            for node in ast.walk(tree_of(file)):
                if isinstance(node, ast.Assign):
                    self.assertNotIsInstance(node.value, (ast.Set, ast.SetComp), (file, node.lineno))
                    if isinstance(node.value, ast.Call) and isinstance(node.value.func, ast.Name):
                        self.assertNotEqual(node.value.func.id, "set", (file, node.lineno))

    def test_strings(self):
        for file in FILES:
            tree = tree_of(file)
            told = [node.body[0].value for node in ast.walk(tree)
                    if isinstance(node, (ast.Module, ast.FunctionDef, ast.ClassDef))
                    and node.body and isinstance(node.body[0], ast.Expr)]
            for node in ast.walk(tree):
                if isinstance(node, ast.Constant) and isinstance(node.value, str) and node not in told:
                    self.assertNotIn("%", node.value, (file, node.lineno))
                    self.assertNotIn("__", node.value, (file, node.lineno))


if __name__ == "__main__":
    unittest.main()
