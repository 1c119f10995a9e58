"""The files of the package keep the language rules, as far as reading them can tell."""

import ast
import builtins
import re
import unittest
import warnings
from pathlib import Path

PACKAGE = Path(__file__).resolve().parent.parent / "foldworld"
SOURCES = {path: path.read_text(encoding="utf-8") for path in sorted(PACKAGE.rglob("*.py"))}
TREES = {path: ast.parse(text) for path, text in SOURCES.items()}

LIBRARY = {
    "heapq": {"heappush", "heappop", "heapify", "heapreplace", "heappushpop"},
    "math": {"gcd", "lcm", "isqrt", "comb", "perm", "factorial"},
    "itertools": {"product", "combinations", "permutations", "chain", "accumulate", "pairwise",
                  "islice", "zip_longest"},
    "collections": {"defaultdict", "deque"},
}
ERRORS = {
    "Exception", "ValueError", "TypeError", "KeyError", "IndexError", "LookupError",
    "ZeroDivisionError", "ArithmeticError", "OverflowError", "RuntimeError",
    "NotImplementedError", "AttributeError", "StopIteration",
}
BUILTINS = ERRORS | set(
    "len range enumerate zip min max sum abs sorted reversed int str bool bytes list tuple dict "
    "set isinstance ord repr any all divmod pow getattr hasattr setattr iter next map type super "
    "property staticmethod classmethod NotImplemented object float".split())
CAUGHT = {"KeyError", "ZeroDivisionError", "StopIteration", "ValueError", "LookupError",
          "IndexError"}
METHODS = set(
    "append clear copy count endswith extend find get index insert isalnum isalpha isdigit "
    "islower isspace isupper items join keys ljust lower lstrip partition pop remove replace "
    "reverse rfind rjust rpartition rsplit rstrip setdefault split splitlines startswith strip "
    "update upper values zfill bit_length title capitalize swapcase casefold center expandtabs "
    "removeprefix removesuffix rindex isascii isdecimal isnumeric istitle isidentifier "
    "isprintable translate maketrans encode decode hex format sort add discard "
    "appendleft popleft extendleft rotate __init__".split())
BARRED_FILES = {"test", "tests", "testing", "site", "conftest", "sitecustomize", "usercustomize",
                "heapq", "math", "itertools", "collections"}
BARRED_NAMES = {"mro", "elements", "open", "input", "law", "version_info", "with_traceback",
                "add_note"}
BARRED_WORDS = re.compile(
    r"\b(typing|typing_extensions|enum|Enum|IntEnum|StrEnum|Flag|IntFlag|Generic|Protocol|ABC"
    r"|ABCMeta|namedtuple|NamedTuple|TypedDict|TYPE_CHECKING|abstractmethod|_wall|_WallAttr"
    r"|metaclass=|Meta)\b|dataclass|overload|contextmanager|\(type\)")
DOUBLE = set(
    "init eq repr str len enter exit call iter lt le gt ge ne add sub mul floordiv mod pow and or "
    "xor lshift rshift neg pos invert abs bool contains getitem setitem".split())
STATEMENTS = (
    ast.Assign, ast.AugAssign, ast.AnnAssign, ast.If, ast.While, ast.For, ast.Return, ast.Break,
    ast.Continue, ast.Pass, ast.Raise, ast.Assert, ast.Delete, ast.Nonlocal, ast.Global,
    ast.Match, ast.With, ast.Try, ast.Expr, ast.FunctionDef, ast.ClassDef, ast.ImportFrom,
    ast.Import)
FUNCTIONS = (ast.FunctionDef, ast.AsyncFunctionDef)


def is_docstring(node):
    return (isinstance(node, ast.Expr) and isinstance(node.value, ast.Constant)
            and isinstance(node.value.value, str))


def docstrings(tree):
    """The constants that are docstrings."""
    bodies = [node.body for node in ast.walk(tree) if isinstance(getattr(node, "body", None), list)]
    return [body[0].value for body in bodies if body and is_docstring(body[0])]


def bound_at_module_level(tree):
    """The names that a file binds, in their order."""
    names = []
    for node in tree.body:
        if isinstance(node, (ast.FunctionDef, ast.ClassDef)):
            names.append(node.name)
        elif isinstance(node, ast.ImportFrom):
            names.extend(alias.asname or alias.name for alias in node.names)
        elif isinstance(node, (ast.Assign, ast.AnnAssign)):
            targets = node.targets if isinstance(node, ast.Assign) else [node.target]
            names.extend(target.id for target in targets)
    return names


def bound_anywhere(tree):
    """All names that are given a meaning in a file, attributes left aside."""
    for node in ast.walk(tree):
        if isinstance(node, (ast.FunctionDef, ast.ClassDef)):
            yield node.name
        elif isinstance(node, ast.Name) and not isinstance(node.ctx, ast.Load):
            yield node.id
        elif isinstance(node, ast.arg):
            yield node.arg
        elif isinstance(node, ast.ExceptHandler) and node.name:
            yield node.name


def file_of(module):
    """The file of a module of the package."""
    parts = module.split(".")[1:]
    path = PACKAGE.joinpath(*parts)
    return path / "__init__.py" if path.is_dir() else path.with_suffix(".py")


def each(kinds):
    """Each node of these kinds in each file, with its place (file and line) and the file."""
    for path, tree in TREES.items():
        for node in ast.walk(tree):
            if isinstance(node, kinds):
                yield f"{path.name}:{getattr(node, 'lineno', '?')}", path, node


class TestFiles(unittest.TestCase):
    def test_the_folder_holds_python_files_alone(self):
        for path in PACKAGE.rglob("*"):
            if "__pycache__" in path.parts:
                continue
            with self.subTest(str(path)):
                if path.is_dir():
                    self.assertTrue((path / "__init__.py").is_file())
                else:
                    self.assertRegex(path.name, r"^[a-z0-9_]+\.py$")
                self.assertNotIn(path.stem, BARRED_FILES | set(dir(builtins)))
                self.assertFalse(path.stem.startswith(("test_", "law_")))
        self.assertIn(PACKAGE / "__init__.py", SOURCES)
        self.assertLessEqual(len(SOURCES), 100)

    def test_sizes_and_signs(self):
        for path, text in SOURCES.items():
            with self.subTest(path.name):
                self.assertRegex(text, r"\A[ -~\n]*\Z")
                self.assertLessEqual(len(text.split("\n")), 399)
                self.assertLessEqual(max(map(len, text.split("\n"))), 120)
        for place, _, node in each(FUNCTIONS):
            self.assertLessEqual(node.end_lineno - node.lineno + 1, 40, place)

    def test_no_warnings(self):
        for path, text in SOURCES.items():
            with self.subTest(path.name), warnings.catch_warnings():
                warnings.simplefilter("error")
                compile(text, str(path), "exec")

    def test_imports(self):
        for place, path, node in each((ast.Import, ast.ImportFrom)):
            self.assertIn(node, TREES[path].body, place)
            names = {alias.name for alias in node.names}
            if isinstance(node, ast.Import):
                self.assertEqual((path.name, names), ("__main__.py", {"sys"}), place)
                continue
            self.assertEqual(node.level, 0, place)
            if node.module in LIBRARY:
                self.assertLessEqual(names, LIBRARY[node.module], place)
                self.assertFalse(any(alias.asname for alias in node.names), place)
            elif node.module != "__future__":
                self.assertEqual(node.module.split(".")[0], "foldworld", place)
                tree = TREES[file_of(node.module)]
                own = [other for other in tree.body if not isinstance(other, ast.ImportFrom)]
                defined = bound_at_module_level(ast.Module(own, []))
                self.assertLessEqual(names, set(defined), place)

    def test_imports_stand_at_the_top(self):
        for path, tree in TREES.items():
            kinds = [isinstance(node, (ast.Import, ast.ImportFrom)) for node in tree.body
                     if not is_docstring(node)]
            with self.subTest(path.name):
                self.assertEqual(kinds, sorted(kinds, reverse=True))

    def test_no_files_import_from_each_other(self):
        needs = {}
        for path, tree in TREES.items():
            needs[path] = {file_of(node.module) for node in tree.body
                           if isinstance(node, ast.ImportFrom)
                           and node.module.startswith("foldworld")}
        while needs:
            free = [path for path in needs if not needs[path] & set(needs)]
            self.assertTrue(free, sorted(path.name for path in needs))
            needs = {path: needs[path] for path in needs if path not in free}

    def test_module_level(self):
        kinds = (ast.FunctionDef, ast.ClassDef, ast.Import, ast.ImportFrom)
        for path, tree in TREES.items():
            names = bound_at_module_level(tree)
            with self.subTest(path.name):
                self.assertEqual(len(names), len(set(names)))
            for node in tree.body:
                with self.subTest(path.name, line=node.lineno):
                    if isinstance(node, ast.Assign):
                        self.assertEqual(len(node.targets), 1)
                        calls = [part for part in ast.walk(node) if isinstance(part, ast.Call)]
                        self.assertEqual(calls, [])
                    elif path.name != "__main__.py":
                        self.assertTrue(isinstance(node, kinds) or is_docstring(node))


class TestCode(unittest.TestCase):
    def test_statements(self):
        for place, _, node in each(ast.stmt):
            self.assertIsInstance(node, STATEMENTS, place)
            if isinstance(node, ast.Expr) and not is_docstring(node):
                self.assertIsInstance(node.value, (ast.Call, ast.Yield, ast.YieldFrom), place)

    def test_decorators(self):
        methods = [part for _, _, node in each(ast.ClassDef) for part in node.body]
        for place, _, node in each(FUNCTIONS):
            marks = [ast.unparse(mark) for mark in node.decorator_list]
            if node not in methods:
                self.assertEqual(marks, [], place)
            for mark in marks:
                self.assertRegex(mark, r"^(property|staticmethod|classmethod|\w+\.setter)$", place)
        for place, _, node in each(ast.ClassDef):
            self.assertEqual(node.decorator_list + node.keywords, [], place)

    def test_values(self):
        for place, _, node in each((ast.BinOp, ast.AugAssign)):
            self.assertNotIsInstance(node.op, (ast.Div, ast.MatMult), place)
            if isinstance(node.op, ast.Pow) and isinstance(node, ast.BinOp):
                if isinstance(node.right, ast.Constant):
                    self.assertIn(node.right.value, range(65), place)
        for place, path, node in each(ast.Constant):
            self.assertNotIsInstance(node.value, (float, complex), place)
            if isinstance(node.value, str) and node not in docstrings(TREES[path]):
                self.assertNotIn("%", node.value, place)
                self.assertNotIn("__", node.value.replace("__main__", ""), place)

    def test_names(self):
        for path, tree in TREES.items():
            for name in bound_anywhere(tree):
                with self.subTest(path.name, name=name):
                    self.assertRegex(name, r"^_?[A-Za-z][A-Za-z0-9_]*$|^_$|^__[a-z]+__$")
                    self.assertNotIn(name, BARRED_NAMES)
                    self.assertNotIn(name, set(dir(builtins)) - {"id", "format", "object"})
        for place, _, node in each(FUNCTIONS):
            if node.name.startswith("__"):
                self.assertIn(node.name.strip("_"), DOUBLE, place)
        for place, _, node in each(ast.Attribute):
            self.assertNotIn(node.attr, BARRED_NAMES, place)

    def test_no_local_name_is_that_of_an_import_or_a_class(self):
        for path, tree in TREES.items():
            taken = {node.name for node in tree.body if isinstance(node, ast.ClassDef)}
            for node in tree.body:
                if isinstance(node, ast.ImportFrom):
                    taken |= {alias.asname or alias.name for alias in node.names}
            for node in ast.walk(tree):
                if isinstance(node, FUNCTIONS):
                    with self.subTest(path.name, function=node.name):
                        inner = ast.Module([node], [])
                        self.assertEqual(taken & (set(bound_anywhere(inner)) - {node.name}), set())

    def test_words(self):
        for path, text in SOURCES.items():
            for number, line in enumerate(text.split("\n"), 1):
                with self.subTest(path.name, line=number):
                    self.assertIsNone(BARRED_WORDS.search(line))

    def test_builtins(self):
        for place, path, node in each(ast.Name):
            if isinstance(node.ctx, ast.Load) and hasattr(builtins, node.id):
                allowed = BUILTINS | ({"print"} if path.name == "__main__.py" else set())
                self.assertIn(node.id, allowed, place)

    def test_methods_of_builtin_values(self):
        own = {node.name for _, _, node in each(FUNCTIONS)}
        for place, path, node in each(ast.Call):
            if isinstance(node.func, ast.Attribute) and path.name != "__main__.py":
                self.assertIn(node.func.attr, METHODS | own, place)

    def test_sets_are_not_iterated(self):
        for _, path, node in each((ast.For, ast.comprehension)):
            self.assertNotIsInstance(node.iter, (ast.Set, ast.SetComp), path.name)
            if isinstance(node.iter, ast.Call):
                self.assertNotIn(ast.unparse(node.iter.func), ("set", "frozenset"), path.name)

    def test_errors(self):
        own = {node.name for _, _, node in each(ast.ClassDef)}
        for place, _, node in each(ast.ExceptHandler):
            self.assertIsNotNone(node.type, place)
            kinds = node.type.elts if isinstance(node.type, ast.Tuple) else [node.type]
            for kind in kinds:
                self.assertIn(ast.unparse(kind), own | CAUGHT, place)
        for place, _, node in each(ast.Raise):
            if node.exc is not None:
                self.assertIsInstance(node.exc, ast.Call, place)
                self.assertIn(ast.unparse(node.exc.func), own | ERRORS, place)

    def test_sorting_and_turning(self):
        for place, _, node in each(ast.Call):
            word = ast.unparse(node.func)
            self.assertFalse(word.endswith(".sort"), place)
            if word == "reversed":
                self.assertRegex(ast.unparse(node.args[0]), r"^(list|tuple|sorted|range)\(|^[\[(]", place)
            if word in ("sorted", "sum", "min", "max", "any", "all"):
                kinds = [kind for part in node.args for kind in [part] if isinstance(kind, ast.GeneratorExp)]
                self.assertEqual(kinds, [], place)

    def test_items_and_iterating(self):
        for place, _, node in each(ast.ClassDef):
            names = {part.name for part in node.body if isinstance(part, ast.FunctionDef)}
            self.assertFalse("__getitem__" in names and "__iter__" not in names, place)
            self.assertNotIn("keys", names, place)

    def test_exit_is_plain(self):
        for place, _, node in each(FUNCTIONS):
            if node.name == "__exit__":
                for part in node.body:
                    self.assertRegex(
                        ast.unparse(part),
                        r"^(\w+ = self\.\w+|(self|\w+)\.\w+ = \w+\.\w+|return|pass)$", place)

    def test_finally_is_plain(self):
        for place, _, node in each(ast.Try):
            for part in node.finalbody:
                for inner in ast.walk(part):
                    self.assertNotIsInstance(
                        inner, (ast.Call, ast.Subscript, ast.Return, ast.Raise, ast.BinOp, ast.For), place)

    def test_is_stands_beside_none_true_and_false(self):
        plain = {"None", "True", "False", "self"}
        for place, _, node in each(ast.Compare):
            for sign, right in zip(node.ops, node.comparators):
                if isinstance(sign, (ast.Is, ast.IsNot)):
                    sides = {ast.unparse(node.left), ast.unparse(right)}
                    about_class = ast.unparse(node.left).startswith("type(")
                    self.assertTrue(about_class or sides & plain, place)


if __name__ == "__main__":
    unittest.main()
