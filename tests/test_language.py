"""The package's files keep to the language: a check of those rules that a look at the code can tell."""

import ast
import builtins
import pathlib
import re
import unittest
import warnings

TOP = pathlib.Path(__file__).resolve().parent.parent
PACKAGE = TOP / "owncontraries"

BUILTINS = set(
    """len range enumerate zip min max sum abs sorted reversed int str bool bytes list tuple dict set frozenset
    isinstance ord repr any all divmod pow iter next map super property staticmethod classmethod
    Exception ValueError TypeError KeyError IndexError LookupError ZeroDivisionError ArithmeticError OverflowError
    RuntimeError NotImplementedError StopIteration NotImplemented""".split()
)
LIBRARY = {
    "heapq": ["heappush", "heappop", "heapify", "heapreplace", "heappushpop"],
    "math": ["gcd", "lcm", "isqrt", "comb", "perm", "factorial"],
    "itertools": [
        "product", "combinations", "permutations", "chain", "accumulate", "pairwise", "islice", "zip_longest",
    ],
    "collections": ["defaultdict"],
}
METHODS = set(
    """append clear copy count endswith extend find get index insert isalnum isalpha isdigit islower isspace isupper
    items join keys ljust lower lstrip partition pop remove replace reverse rfind rjust rpartition rsplit rstrip
    setdefault split splitlines startswith strip update upper values zfill bit_length add discard
    title capitalize swapcase casefold center expandtabs removeprefix removesuffix rindex isascii isdecimal isnumeric
    istitle isidentifier isprintable translate format""".split()
)
DOUBLES = set(
    """__init__ __eq__ __repr__ __str__ __len__ __enter__ __exit__ __call__ __iter__ __lt__ __le__ __gt__ __ge__ __ne__
    __contains__ __getitem__ __setitem__ __bool__ __neg__ __pos__ __invert__ __abs__""".split()
)
BARRED_WORDS = re.compile(
    r"\b(type|typing|typing_extensions|enum|Enum|IntEnum|StrEnum|Flag|IntFlag|Generic|Protocol|ABC|ABCMeta|namedtuple"
    r"|NamedTuple|TypedDict|TYPE_CHECKING|abstractmethod|_wall|_WallAttr)\b|dataclass|overload|contextmanager"
)
BARRED_NAMES = set(
    """register mro elements open input law version_info with_traceback add_note attrgetter breakpoint builtins compile
    copyright credits delattr dir eval exec exit gc globals help id importlib license locals methodcaller os quit
    setattr vars sys""".split()
)
# methods of builtin values that no attribute of an own object is called like
BARRED_ATTRIBUTES = set(
    """items keys values pop update append clear extend insert remove reverse setdefault sort args encode decode hex
    fromhex format as_integer_ratio bit_count conjugate from_bytes is_integer to_bytes""".split()
)
# doctest leaves a name "_" among the builtins
PYTHONS_OWN = [name for name in vars(builtins) if not name.startswith("_")]
STATEMENTS = (
    ast.FunctionDef, ast.ClassDef, ast.Assign, ast.AugAssign, ast.If, ast.While, ast.For, ast.Return, ast.Break,
    ast.Continue, ast.Pass, ast.Raise, ast.Assert, ast.Delete, ast.Nonlocal, ast.Match, ast.With, ast.Try, ast.Expr,
    ast.AnnAssign, ast.ImportFrom,
)


def files():
    return sorted(PACKAGE.rglob("*.py"))


def trees():
    return [(file.name, ast.parse(file.read_text())) for file in files()]


def walked(kind):
    return [(name, node) for name, tree in trees() for node in ast.walk(tree) if isinstance(node, kind)]


def docstrings(tree):
    owners = [node for node in ast.walk(tree) if isinstance(node, (ast.Module, ast.ClassDef, ast.FunctionDef))]
    return {
        id(node.body[0].value) for node in owners if ast.get_docstring(node, clean=False) is not None
    }


class TestFiles(unittest.TestCase):
    def test_the_folder_holds_plain_files_alone(self):
        self.assertTrue((PACKAGE / "__init__.py").is_file())
        for path in PACKAGE.rglob("*"):
            if path.name == "__pycache__" or path.parent.name == "__pycache__":
                continue
            self.assertRegex(path.name, r"^[a-z_][a-z0-9_]*\.py$")
        self.assertLessEqual(len(files()), 100)

    def test_sizes_and_signs(self):
        for file in files():
            text = file.read_bytes().decode("ascii")
            with self.subTest(file.name):
                self.assertRegex(text, r"\A[ -~\n]*\Z")
                self.assertTrue(text.endswith("\n"))
                lines = text.split("\n")
                self.assertLessEqual(len(lines) - 1, 399)
                self.assertLessEqual(max(len(line) for line in lines), 120)

    def test_functions_are_small(self):
        for name, node in walked(ast.FunctionDef):
            with self.subTest(name, function=node.name):
                self.assertLessEqual(node.end_lineno - node.lineno + 1, 40)

    def test_python_gives_no_warning(self):
        for file in files():
            with warnings.catch_warnings():
                warnings.simplefilter("error")
                compile(file.read_text(), str(file), "exec")


class TestImports(unittest.TestCase):
    def imports(self):
        return {name: [n for n in tree.body if isinstance(n, ast.ImportFrom)] for name, tree in trees()}

    def test_imports_name_the_file_that_defines(self):
        self.assertEqual(walked(ast.Import), [])
        for name, nodes in self.imports().items():
            for node in nodes:
                self.assertEqual(node.level, 0)
                if node.module in LIBRARY:
                    for part in node.names:
                        self.assertIn(part.name, LIBRARY[node.module])
                        self.assertIsNone(part.asname)
                    continue
                self.assertRegex(node.module, r"^owncontraries\.[a-z_]+$")
                tree = ast.parse((PACKAGE / (node.module.split(".")[1] + ".py")).read_text())
                defined = [n.name for n in tree.body if isinstance(n, (ast.FunctionDef, ast.ClassDef))]
                defined += [t.id for n in tree.body if isinstance(n, ast.Assign) for t in n.targets]
                for part in node.names:
                    with self.subTest(name, part=part.name):
                        self.assertIn(part.name, defined)

    def test_what_is_imported_is_used(self):
        for name, tree in trees():
            used = {node.id for node in ast.walk(tree) if isinstance(node, ast.Name)}
            for node in [n for n in tree.body if isinstance(n, ast.ImportFrom)]:
                for part in node.names:
                    with self.subTest(name, part=part.name):
                        self.assertIn(part.asname or part.name, used)

    def test_no_two_files_import_from_each_other(self):
        left = {
            name: [n.module.split(".")[1] + ".py" for n in nodes if n.module not in LIBRARY]
            for name, nodes in self.imports().items()
        }
        while left:
            free = [name for name in left if not [other for other in left[name] if other in left]]
            self.assertTrue(free, left)
            left = {name: others for name, others in left.items() if name not in free}

    def test_no_other_name_hides_an_import_or_a_class(self):
        for name, tree in trees():
            taken = {part.name for node in self.imports()[name] for part in node.names}
            taken |= {node.name for node in tree.body if isinstance(node, ast.ClassDef)}
            nodes = list(ast.walk(tree))
            given = [node.arg for node in nodes if isinstance(node, ast.arg)]
            given += [node.id for node in nodes if isinstance(node, ast.Name) and isinstance(node.ctx, ast.Store)]
            given += [node.name for node in nodes if isinstance(node, ast.FunctionDef)]
            self.assertEqual([called for called in given if called in taken], [], name)

    def test_imports_stand_at_the_top(self):
        for name, tree in trees():
            kinds = [isinstance(node, ast.ImportFrom) for node in tree.body if not isinstance(node, ast.Expr)]
            self.assertEqual(kinds, sorted(kinds, reverse=True), name)
            self.assertEqual(sum(kinds), len([n for n in ast.walk(tree) if isinstance(n, ast.ImportFrom)]))


class TestCode(unittest.TestCase):
    def test_module_level(self):
        for name, tree in trees():
            for at, node in enumerate(tree.body):
                with self.subTest(name, line=node.lineno):
                    self.assertIsInstance(
                        node, (ast.Expr, ast.ImportFrom, ast.FunctionDef, ast.ClassDef, ast.Assign)
                    )
                    if isinstance(node, ast.Expr):
                        self.assertEqual(at, 0)

    def test_statements(self):
        for name, node in walked(ast.stmt):
            self.assertIsInstance(node, STATEMENTS, name)

    def test_names(self):
        for name, node in walked((ast.Name, ast.arg, ast.FunctionDef, ast.ClassDef, ast.Attribute, ast.keyword)):
            called = getattr(node, "id", None) or getattr(node, "arg", None)
            called = called or getattr(node, "name", None) or getattr(node, "attr", None)
            with self.subTest(name, called=called, line=node.lineno):
                self.assertNotIn(called, BARRED_NAMES)
                if called.startswith("__") and called != "__class__" and called != "__name__":
                    self.assertTrue(called in DOUBLES or isinstance(node, ast.FunctionDef))

    def test_builtins(self):
        for name, node in walked(ast.Name):
            if node.id in PYTHONS_OWN:
                with self.subTest(name, called=node.id, line=node.lineno):
                    self.assertIn(node.id, BUILTINS)
                    self.assertIsInstance(node.ctx, ast.Load)
        for name, tree in trees():
            given = [node.arg for node in ast.walk(tree) if isinstance(node, ast.arg)]
            given += [node.name for node in tree.body if isinstance(node, (ast.FunctionDef, ast.ClassDef))]
            self.assertEqual([called for called in given if called in PYTHONS_OWN], [], name)

    def test_called_methods(self):
        own = {node.name for _, node in walked((ast.FunctionDef, ast.ClassDef))}
        for name, node in walked(ast.Call):
            if isinstance(node.func, ast.Attribute):
                with self.subTest(name, called=node.func.attr, line=node.lineno):
                    self.assertIn(node.func.attr, own | METHODS | {"__init__"})

    def test_decorators(self):
        for name, node in walked((ast.FunctionDef, ast.ClassDef)):
            for decorator in node.decorator_list:
                told = ast.unparse(decorator)
                self.assertRegex(told, r"^(property|staticmethod|classmethod|[a-z_]+\.setter)$", name)

    def test_values(self):
        for name, tree in trees():
            left_out = docstrings(tree)
            for node in ast.walk(tree):
                if isinstance(node, ast.Constant):
                    self.assertNotIsInstance(node.value, (float, complex), name)
                    if isinstance(node.value, str):
                        self.assertNotIn("%", node.value, name)
                    if isinstance(node.value, str) and id(node) not in left_out:
                        self.assertFalse(BARRED_WORDS.search(node.value), node.value)
                self.assertNotIsInstance(node, (ast.Div, ast.MatMult, ast.Global, ast.Await, ast.AsyncFor), name)

    def test_barred_words(self):
        for name, node in walked((ast.Name, ast.arg, ast.FunctionDef, ast.ClassDef, ast.Attribute)):
            told = getattr(node, "id", "") or getattr(node, "arg", "")
            told = told or getattr(node, "name", "") or getattr(node, "attr", "")
            self.assertFalse(BARRED_WORDS.search(told), (name, told))

    def test_sets_are_not_iterated(self):
        for name, node in walked((ast.For, ast.comprehension)):
            self.assertNotIsInstance(node.iter, (ast.Set, ast.SetComp), name)
            if isinstance(node.iter, ast.Call) and isinstance(node.iter.func, ast.Name):
                self.assertNotEqual(node.iter.func.id, "set", name)

    def test_is_stands_beside_none_and_truths(self):
        for name, node in walked(ast.Compare):
            if any(isinstance(sign, (ast.Is, ast.IsNot)) for sign in node.ops):
                sides = [node.left] + node.comparators
                values = [side.value for side in sides if isinstance(side, ast.Constant)]
                self.assertTrue([value for value in values if value is None or isinstance(value, bool)], name)

    def classes(self):
        return [node for name, node in walked(ast.ClassDef)]

    def test_attributes_and_properties(self):
        methods = {node.name: node for one in self.classes() for node in one.body if isinstance(node, ast.FunctionDef)}
        properties = {name for name, node in methods.items() if node.decorator_list}
        for one in self.classes():
            own = {node.name for node in one.body if isinstance(node, ast.FunctionDef)}
            given = {node.attr for node in ast.walk(one) if isinstance(node, ast.Attribute)
                     and isinstance(node.ctx, ast.Store)}
            self.assertEqual(given & (BARRED_ATTRIBUTES | properties | own), set(), one.name)

    def test_classes_with_items_are_not_iterated_over(self):
        for one in self.classes():
            own = {node.name: node for node in one.body if isinstance(node, ast.FunctionDef)}
            if "__getitem__" in own:
                self.assertIsInstance(own["__iter__"].body[0], ast.Raise)
                self.assertEqual(len(own["__iter__"].body), 1)
            if "__len__" in own:
                told = own["__len__"].body
                self.assertEqual([isinstance(told[0], ast.Return), len(told), told[0].value.func.id], [True, 1, "len"])
        for file in files():
            self.assertIsNone(re.search(r"\(type\)|Meta|metaclass=", file.read_text()), file.name)

    def test_an_exit_only_puts_back(self):
        found = [node for name, node in walked(ast.FunctionDef) if node.name == "__exit__"]
        self.assertTrue(found)
        for node in found:
            for row in node.body:
                self.assertIsInstance(row, ast.Assign)
                self.assertIsInstance(row.value, ast.Attribute)

    def test_lists_instead_of_generators(self):
        self.assertEqual(walked((ast.GeneratorExp, ast.Yield, ast.YieldFrom)), [])

    def test_each_class_and_function_tells_what_it_is(self):
        for name, node in walked((ast.FunctionDef, ast.ClassDef)):
            if not node.name.startswith("__"):
                self.assertTrue(ast.get_docstring(node), (name, node.name))


if __name__ == "__main__":
    unittest.main()
