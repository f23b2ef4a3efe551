"""The rules of LANGUAGE.md that can be seen file by file: parts of L1 to L10, L12, L14 to L17, L19, L23 and L27."""

import ast
import builtins
import pathlib
import re
import unittest

import hookstrips

PACKAGE = pathlib.Path(hookstrips.__file__).parent

ALLOWED = set(
    "len range enumerate zip min max sum abs sorted reversed int str bool bytes list tuple dict set frozenset"
    " isinstance ord repr any all divmod pow getattr hasattr setattr iter next map type super property staticmethod"
    " classmethod Exception ValueError TypeError KeyError IndexError LookupError ZeroDivisionError ArithmeticError"
    " OverflowError RuntimeError NotImplementedError AttributeError StopIteration NotImplemented object".split()
)
LIBRARY = {
    "math": {"gcd", "lcm", "isqrt", "comb", "perm", "factorial"},
    "heapq": {"heappush", "heappop", "heapify", "heapreplace", "heappushpop"},
    "itertools": {
        "product", "combinations", "permutations", "chain", "accumulate", "pairwise", "islice", "zip_longest",
    },
    "collections": {"defaultdict", "deque"},
}
BARRED = set(
    "register mro elements open input law version_info with_traceback add_note typing typing_extensions enum Enum"
    " IntEnum StrEnum Flag IntFlag Generic Protocol ABC ABCMeta namedtuple NamedTuple TypedDict TYPE_CHECKING"
    " abstractmethod dataclass overload contextmanager eval exec compile globals locals vars dir id".split()
)
METHODS = ("__init__", "__eq__", "__str__", "__contains__", "__len__", "__iter__", "__enter__", "__exit__")
CHANGING = ("__init__", "__enter__", "__exit__")
TOP = (ast.ImportFrom, ast.FunctionDef, ast.ClassDef, ast.Assign)
NOT_PLAIN = (ast.Call, ast.ListComp, ast.Set, ast.SetComp, ast.DictComp)
NOT_USED = (
    ast.GeneratorExp, ast.Global, ast.AsyncFunctionDef, ast.AsyncFor, ast.AsyncWith, ast.Await, ast.Div, ast.Import,
)


def files():
    """The path, the text and the tree of each file of the package."""
    told = []
    for path in sorted(PACKAGE.rglob("*.py")):
        text = path.read_bytes().decode("ascii")
        told.append((str(path), text, ast.parse(text)))
    return told


def is_docstring(node):
    return isinstance(node, ast.Expr) and isinstance(node.value, ast.Constant) and isinstance(node.value.value, str)


def bound_names(tree):
    """All names that parameters, assignments, functions, classes and imports of a file bind."""
    names = []
    for node in ast.walk(tree):
        if isinstance(node, ast.arg):
            names.append(node.arg)
        elif isinstance(node, ast.Name) and not isinstance(node.ctx, ast.Load):
            names.append(node.id)
        elif isinstance(node, (ast.FunctionDef, ast.ClassDef)):
            names.append(node.name)
        elif isinstance(node, ast.alias):
            names.append(node.name)
    return names


def top_names(tree):
    """The names that the module level of a file binds."""
    names = []
    for node in tree.body:
        if isinstance(node, ast.ImportFrom):
            names += [alias.name for alias in node.names]
        elif isinstance(node, ast.Assign):
            names += [target.id for target in node.targets]
        elif isinstance(node, (ast.FunctionDef, ast.ClassDef)):
            names.append(node.name)
    return names


def put_to(node):
    """Pairs of what `+=`, `|=`, `extend` or `update` changes and what it gets, items, attributes and choices taken off."""
    if isinstance(node, ast.AugAssign) and isinstance(node.op, (ast.Add, ast.BitOr)):
        changed, passed = node.target, [node.value]
    elif isinstance(node, ast.Call) and getattr(node.func, "attr", None) in ("extend", "update"):
        changed, passed = node.func.value, node.args
    else:
        return []
    while isinstance(changed, ast.Subscript):
        changed = changed.value
    return [(ast.unparse(changed), ast.unparse(part)) for each in passed for part in handed(each)]


def handed(node):
    """An expression and the expressions of which it is an item, an attribute, a choice, a sum or the like."""
    parts = [node]
    for field in ("value", "left", "right", "body", "orelse"):
        if isinstance(getattr(node, field, None), ast.expr):
            parts += handed(getattr(node, field))
    for each in getattr(node, "values", []):
        parts += handed(each)
    return parts


class Language(unittest.TestCase):
    def test_the_folder_holds_only_files_of_the_package(self):
        for path in [PACKAGE, *PACKAGE.rglob("*")]:
            if "__pycache__" in path.parts:
                continue
            with self.subTest(path=str(path)):
                if path.is_dir():
                    self.assertTrue((path / "__init__.py").is_file())
                self.assertRegex(path.name, r"\A[a-z0-9_]+(\.py)?\Z")
                self.assertEqual(path.is_dir(), path.suffix == "")
                self.assertIsNone(re.match(r"law_|tests?\Z|test_|testing\Z|site\Z|conftest\Z", path.stem))

    def test_characters_and_sizes(self):
        for path, text, tree in files():
            with self.subTest(path=path):
                self.assertEqual(set(text) - {chr(code) for code in range(32, 127)} - {"\n"}, set())
                self.assertLess(len(text.split("\n")), 400)
                self.assertLessEqual(max(map(len, text.split("\n"))), 120)
                for node in ast.walk(tree):
                    if isinstance(node, ast.FunctionDef):
                        self.assertLessEqual(node.end_lineno - node.lineno + 1, 40, node.name)

    def test_module_level(self):
        for path, text, tree in files():
            with self.subTest(path=path):
                for at, node in enumerate(tree.body):
                    self.assertTrue(isinstance(node, TOP) or at == 0 and is_docstring(node), ast.dump(node))
                    if isinstance(node, ast.Assign):
                        self.assertEqual([type(target) for target in node.targets], [ast.Name])
                        for part in ast.walk(node.value):
                            self.assertNotIsInstance(part, NOT_PLAIN)
                names = top_names(tree)
                self.assertEqual(len(names), len(set(names)))

    def test_imports(self):
        for path, text, tree in files():
            with self.subTest(path=path):
                for node in ast.walk(tree):
                    if isinstance(node, ast.ImportFrom):
                        self.assertEqual(node.level, 0)
                        self.assertEqual([alias.asname for alias in node.names], [None] * len(node.names))
                        self.imports_from_the_defining_file(node.module, {alias.name for alias in node.names})

    def imports_from_the_defining_file(self, module, names):
        if module in LIBRARY:
            self.assertLessEqual(names, LIBRARY[module])
            return
        self.assertEqual(module.split(".")[0], "hookstrips")
        path = PACKAGE.parent.joinpath(*module.split(".")).with_suffix(".py")
        tree = ast.parse(path.read_text(encoding="ascii"))
        tree.body = [node for node in tree.body if not isinstance(node, ast.ImportFrom)]
        self.assertLessEqual(names, set(top_names(tree)))

    def test_names(self):
        for path, text, tree in files():
            with self.subTest(path=path):
                own = set(bound_names(tree))
                self.assertEqual(own & set(dir(builtins)), set())
                self.assertEqual(own & BARRED, set())
                imported = [node.names for node in tree.body if isinstance(node, ast.ImportFrom)]
                imports = [alias.name for names in imported for alias in names]
                # An imported name is bound by its import alone (L15).
                self.assertEqual([bound_names(tree).count(name) for name in imports], [1] * len(imports))
                used = {node.id for node in ast.walk(tree) if isinstance(node, ast.Name)}
                self.assertLessEqual(used & set(dir(builtins)), ALLOWED)

    def test_expressions(self):
        for path, text, tree in files():
            with self.subTest(path=path):
                for node in ast.walk(tree):
                    self.assertNotIsInstance(node, NOT_USED)
                    if isinstance(node, ast.Constant):
                        self.assertNotIsInstance(node.value, (float, complex))
                        self.assertFalse(isinstance(node.value, str) and "%" in node.value)
                    if isinstance(node, ast.BinOp) and isinstance(node.op, ast.Pow):
                        self.assertIn(getattr(node.right, "value", None), range(65))
                    if isinstance(node, ast.Compare) and isinstance(node.ops[0], (ast.Is, ast.IsNot)):
                        self.assertIsInstance(node.comparators[0], (ast.Constant, ast.Name))

    def test_each_function_and_class_tells_what_it_is(self):
        for path, text, tree in files():
            with self.subTest(path=path):
                self.assertIsNotNone(ast.get_docstring(tree))
                for node in ast.walk(tree):
                    if isinstance(node, (ast.FunctionDef, ast.ClassDef)) and not node.name.startswith("__"):
                        self.assertIsNotNone(ast.get_docstring(node), node.name)

    def test_classes_and_methods(self):
        for path, text, tree in files():
            with self.subTest(path=path):
                self.assertIsNone(re.search(r"\b_wall\b", text))
                for node in ast.walk(tree):
                    if isinstance(node, ast.FunctionDef):
                        decorators = [ast.unparse(each) for each in node.decorator_list]
                        self.assertIn(decorators, ([], ["property"]))
                        if node.name.startswith("__"):
                            self.assertIn(node.name, METHODS)
                    elif isinstance(node, ast.ClassDef):
                        self.assertEqual(node.decorator_list, [])
                        names = [each.name for each in node.body if isinstance(each, ast.FunctionDef)]
                        self.assertEqual(len(names), len(set(names)))
                        for method in node.body:
                            self.assertTrue(is_docstring(method) or isinstance(method, ast.FunctionDef))
                            if isinstance(method, ast.FunctionDef):
                                self.changes_only_what_it_may(node.name, method)

    def changes_only_what_it_may(self, class_name, method):
        """Properties and operators change nothing, and only ledgers ever change."""
        stored = [node for node in ast.walk(method) if isinstance(node, ast.Attribute)]
        stored = [node for node in stored if not isinstance(node.ctx, ast.Load)]
        if method.decorator_list or method.name.startswith("__") and method.name not in CHANGING:
            self.assertEqual(stored, [])
        if class_name not in ("Ledger", "Trial") and method.name != "__init__":
            self.assertEqual(stored, [])

    def test_no_list_gets_what_it_holds(self):
        for path, text, tree in files():
            with self.subTest(path=path):
                for node in ast.walk(tree):
                    for changed, passed in put_to(node):
                        self.assertNotEqual(changed, passed, ast.unparse(node))

    def test_what_a_list_gets(self):
        for text, wrong in (
            ("sums[at] += sums[at - step]", True), ("sums[at] += 1 + sums[0]", True), ("sums += sums", True),
            ("sums.extend(sums)", True), ("box.rows.update(box.rows)", True), ("sums |= other or sums", True),
            ("sums[0][at] += sums[1][at] if at else 0", True), ("sums[at] += sums[0].many", True),
            ("sums[at] = sums[at] + sums[at - step]", False), ("sums[at] += other[at]", False),
            ("sums.extend(list(sums))", False), ("sums.extend([0] * len(sums))", False), ("sums -= sums", False),
        ):
            pairs = [pair for node in ast.walk(ast.parse(text)) for pair in put_to(node)]
            self.assertIs(any(changed == passed for changed, passed in pairs), wrong, text)

    def test_generators(self):
        generators, functions = [], []
        for path, text, tree in files():
            for node in ast.walk(tree):
                if isinstance(node, ast.FunctionDef):
                    functions.append(node.name)
                    inner = list(ast.walk(node))
                    if any(isinstance(each, (ast.Yield, ast.YieldFrom)) for each in inner):
                        generators.append(node.name)
                        self.assertFalse(any(isinstance(each, (ast.Try, ast.With)) for each in inner), node.name)
        # No other function has the name of a generator, and none is called within the package.
        self.assertEqual([functions.count(name) for name in generators], [1] * len(generators))
        for path, text, tree in files():
            used = {node.id for node in ast.walk(tree) if isinstance(node, ast.Name)}
            self.assertEqual(used & set(generators), set(), path)


if __name__ == "__main__":
    unittest.main()
