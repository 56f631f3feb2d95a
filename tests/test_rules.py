"""Those rules of the language for the package that can be read off its text."""

import ast
import builtins
import pathlib
import re
import unittest
import warnings

ROOT = pathlib.Path(__file__).resolve().parent.parent
PACKAGE = ROOT / "boundstead"

BUILTINS = set(
    "len range enumerate zip map min max sum abs sorted reversed int str bool bytes list tuple dict set frozenset "
    "isinstance ord repr any all divmod pow getattr hasattr setattr iter next type super property staticmethod "
    "classmethod object Exception ValueError TypeError KeyError IndexError LookupError ZeroDivisionError "
    "ArithmeticError OverflowError RuntimeError NotImplementedError AttributeError StopIteration "
    "NotImplemented".split()
)
LIBRARY = {
    "heapq": "heappush heappop heapify heapreplace heappushpop".split(),
    "math": "gcd lcm isqrt comb perm factorial".split(),
    "itertools": "product combinations permutations chain accumulate pairwise islice zip_longest".split(),
    "collections": "defaultdict deque".split(),
}
METHODS = set(
    "append clear copy count endswith extend find get index insert isalnum isalpha isdigit islower isspace isupper "
    "items join keys ljust lower lstrip partition pop remove replace reverse rfind rjust rpartition rsplit rstrip "
    "setdefault split splitlines startswith strip update upper values zfill bit_length title capitalize swapcase "
    "casefold center expandtabs removeprefix removesuffix rindex isascii isdecimal isnumeric istitle isidentifier "
    "isprintable translate add discard sort format appendleft popleft extendleft rotate".split()
)
SPECIAL = set(
    "__init__ __eq__ __ne__ __repr__ __str__ __len__ __enter__ __exit__ __call__ __iter__ __contains__ "
    "__lt__ __le__ __gt__ __ge__ __bool__".split()
)
BARRED = (
    "mro elements open input law version_info with_traceback add_note attrgetter breakpoint builtins compile "
    "delattr dir eval exec exit gc globals help importlib locals methodcaller os vars sys"
).split()
BARRED_WORDS = re.compile(
    r"\b(typing|typing_extensions|enum|Enum|IntEnum|StrEnum|Flag|IntFlag|Generic|Protocol|ABC|ABCMeta|namedtuple|"
    r"NamedTuple|TypedDict|TYPE_CHECKING|abstractmethod)\b|dataclass|overload|contextmanager|_wall|_WallAttr"
)
STATEMENTS = (
    ast.Assign, ast.AugAssign, ast.AnnAssign, ast.If, ast.While, ast.For, ast.Return, ast.Break, ast.Continue,
    ast.Pass, ast.Raise, ast.Assert, ast.Delete, ast.Nonlocal, ast.Global, ast.Match, ast.With, ast.Try, ast.Expr,
    ast.FunctionDef, ast.ClassDef, ast.ImportFrom,
)


def files():
    """The path, the text and the tree of each file of the package."""
    for path in sorted(PACKAGE.rglob("*.py")):
        text = path.read_text(encoding="utf-8")
        yield path, text, ast.parse(text)


def names_in(tree):
    """Every name, attribute, parameter, keyword, function and class in the tree."""
    for node in ast.walk(tree):
        if isinstance(node, ast.Name):
            yield node.id
        elif isinstance(node, ast.Attribute):
            yield node.attr
        elif isinstance(node, (ast.arg, ast.keyword)):
            yield node.arg
        elif isinstance(node, (ast.FunctionDef, ast.ClassDef)):
            yield node.name


class TextTest(unittest.TestCase):
    def test_the_folder_contains_python_files_alone(self):
        self.assertTrue((PACKAGE / "__init__.py").is_file())
        for path in PACKAGE.rglob("*"):
            if "__pycache__" not in path.parts:
                self.assertTrue(path.is_dir() or re.fullmatch(r"[a-z_][a-z0-9_]*\.py", path.name), path)

    def test_size_and_characters(self):
        for path, text, tree in files():
            lines = text.split("\n")
            self.assertLessEqual(len(lines), 400, path)
            self.assertLessEqual(max(map(len, lines)), 120, path)
            self.assertRegex(text, r"\A[ -~\n]*\Z", path)
            for node in ast.walk(tree):
                if isinstance(node, ast.FunctionDef):
                    self.assertLessEqual(node.end_lineno - node.lineno + 1, 40, (path, node.name))

    def test_barred_words(self):
        for path, text, tree in files():
            self.assertIsNone(BARRED_WORDS.search(text), path)
            for name in names_in(tree):
                self.assertNotIn(name, BARRED, path)


class CodeTest(unittest.TestCase):
    def test_imports(self):
        for path, _, tree in files():
            for node in ast.walk(tree):
                self.assertNotIsInstance(node, ast.Import, path)
                if not isinstance(node, ast.ImportFrom):
                    continue
                self.assertIn(node, tree.body, path)
                self.assertEqual(node.level, 0, path)
                self.assertFalse([each.name for each in node.names if each.asname or each.name == "*"], path)
                if not node.module.startswith("boundstead."):
                    self.assertIn(node.module, LIBRARY, path)
                    self.assertLessEqual({each.name for each in node.names}, set(LIBRARY[node.module]), path)

    def test_imported_names_are_defined_in_that_file(self):
        for path, _, tree in files():
            for node in tree.body:
                if isinstance(node, ast.ImportFrom) and node.module.startswith("boundstead."):
                    source = ast.parse((ROOT / (node.module.replace(".", "/") + ".py")).read_text())
                    for each in node.names:
                        self.assertIn(each.name, bound_at_module_level(source), (path, each.name))

    def test_module_level(self):
        for path, _, tree in files():
            for at, node in enumerate(tree.body):
                docstring = at == 0 and isinstance(node, ast.Expr) and isinstance(node.value, ast.Constant)
                allowed = (ast.ImportFrom, ast.FunctionDef, ast.ClassDef, ast.Assign)
                self.assertTrue(docstring or isinstance(node, allowed), (path, node.lineno))

    def test_statements_and_expressions(self):
        for path, _, tree in files():
            for node in ast.walk(tree):
                if isinstance(node, ast.stmt):
                    self.assertIsInstance(node, STATEMENTS, (path, node.lineno))
                self.assertNotIsInstance(node, (ast.Div, ast.MatMult, ast.Await, ast.AsyncFunctionDef), path)
                if isinstance(node, ast.Constant):
                    self.assertNotIsInstance(node.value, (float, complex), (path, node.lineno))
                    if isinstance(node.value, str):
                        self.assertNotIn("%", node.value, (path, node.lineno))
                if isinstance(node, ast.FunctionDef):
                    for each in node.decorator_list:
                        self.assertRegex(ast.unparse(each), r"\A(property|staticmethod|classmethod|\w+\.setter)\Z")

    def test_builtins_and_methods(self):
        own = {node.name for _, _, tree in files() for node in ast.walk(tree) if isinstance(node, ast.FunctionDef)}
        for path, _, tree in files():
            for node in ast.walk(tree):
                # A doctest that ran before leaves its last value in a builtin name _.
                if isinstance(node, ast.Name) and node.id != "_" and hasattr(builtins, node.id):
                    self.assertIsInstance(node.ctx, ast.Load, (path, node.lineno))
                    self.assertIn(node.id, BUILTINS, (path, node.lineno))
                if isinstance(node, ast.Call) and isinstance(node.func, ast.Attribute):
                    self.assertIn(node.func.attr, METHODS | SPECIAL | own, (path, node.lineno))

    def test_names(self):
        for path, _, tree in files():
            for name in names_in(tree):
                if name is not None and name.startswith("__"):
                    self.assertIn(name, SPECIAL | {"__slots__"}, path)

    def test_local_names_are_neither_imports_nor_classes_nor_generators(self):
        makers = {
            node.name for _, _, tree in files() for node in ast.walk(tree)
            if isinstance(node, ast.FunctionDef) and any(isinstance(each, ast.Yield) for each in ast.walk(node))
        }
        for path, _, tree in files():
            taken = set(makers)
            for node in tree.body:
                if isinstance(node, ast.ImportFrom):
                    taken.update(each.name for each in node.names)
                elif isinstance(node, ast.ClassDef):
                    taken.add(node.name)
            for name, line in local_names(tree):
                self.assertNotIn(name, taken, (path, line))

    def test_no_name_is_that_of_a_builtin(self):
        for path, _, tree in files():
            for name, line in local_names(tree):
                self.assertFalse(name != "_" and name in vars(builtins), (path, line, name))
            for node in ast.walk(tree):
                if isinstance(node, (ast.FunctionDef, ast.ClassDef)):
                    self.assertNotIn(node.name, vars(builtins), path)

    def test_sets_stand_in_len_alone(self):
        for path, _, tree in files():
            inner = []
            for node in ast.walk(tree):
                if isinstance(node, ast.Call) and isinstance(node.func, ast.Name) and node.func.id == "len":
                    inner.extend(node.args)
            for node in ast.walk(tree):
                self.assertNotIsInstance(node, (ast.Set, ast.SetComp), (path, getattr(node, "lineno", 0)))
                if isinstance(node, ast.Call) and isinstance(node.func, ast.Name) and node.func.id == "set":
                    self.assertIn(node, inner, (path, node.lineno))

    def test_kept_views_and_calls_that_modify(self):
        for path, _, tree in files():
            for node in ast.walk(tree):
                # Such calls are iterated where they stand, so they are neither kept nor given to extend.
                if isinstance(node, ast.Call) and isinstance(node.func, ast.Attribute):
                    self.assertNotEqual(node.func.attr, "sort", (path, node.lineno))
                    if node.func.attr in ("extend", "append", "update"):
                        self.assertNotRegex(ast.unparse(node.args[0]), r"\A(zip|reversed|range|enumerate|map)\(")
                if isinstance(node, ast.Assign):
                    self.assertNotRegex(ast.unparse(node.value), r"\A(zip|reversed|range|enumerate|map)\(")

    def test_underscore_is_never_read(self):
        for path, _, tree in files():
            for node in ast.walk(tree):
                if isinstance(node, ast.Name) and node.id == "_":
                    self.assertIsInstance(node.ctx, ast.Store, (path, node.lineno))

    def test_no_list_that_is_iterated_over_is_modified(self):
        for path, _, tree in files():
            for node in ast.walk(tree):
                if isinstance(node, ast.For):
                    for called in ast.walk(ast.Module(node.body, [])):
                        if isinstance(called, ast.Call) and isinstance(called.func, ast.Attribute):
                            if called.func.attr in ("append", "extend", "pop", "clear", "update", "insert", "remove"):
                                over = ast.unparse(node.iter)
                                self.assertNotEqual(ast.unparse(called.func.value), over, (path, node.lineno))

    def test_is_stands_beside_none_true_and_false_alone(self):
        for path, _, tree in files():
            for node in ast.walk(tree):
                if isinstance(node, ast.Compare) and isinstance(node.ops[0], (ast.Is, ast.IsNot)):
                    self.assertIn(ast.unparse(node.comparators[0]), ("None", "True", "False"), (path, node.lineno))

    def test_no_two_files_import_from_each_other(self):
        above = {}
        for path, _, tree in files():
            above[f"boundstead.{path.stem}"] = [
                node.module for node in tree.body
                if isinstance(node, ast.ImportFrom) and node.module.startswith("boundstead.")
            ]
        while above:
            free = [name for name, needs in above.items() if not any(need in above for need in needs)]
            self.assertTrue(free, above)
            for name in free:
                del above[name]

    def test_no_name_is_a_method_and_an_attribute(self):
        methods, attributes = set(), set()
        for _, _, tree in files():
            for made in ast.walk(tree):
                if isinstance(made, ast.ClassDef):
                    methods.update(node.name for node in made.body if isinstance(node, ast.FunctionDef))
                if isinstance(made, ast.Attribute) and isinstance(made.ctx, ast.Store):
                    attributes.add(made.attr)
        self.assertFalse(methods & attributes)

    def test_no_line_gives_a_warning(self):
        for path, text, _ in files():
            with warnings.catch_warnings():
                warnings.simplefilter("error")
                compile(text, str(path), "exec")

    def test_generator_expressions_are_not_given_to_any_all_and_the_like(self):
        # A tree has its own __eq__ and __len__; then these functions take lists alone.
        for path, _, tree in files():
            for node in ast.walk(tree):
                self.assertNotIsInstance(node, ast.GeneratorExp, (path, getattr(node, "lineno", 0)))


def local_names(tree):
    """The name and the line of each parameter and local variable of a file, nested functions included."""
    for function in ast.walk(tree):
        if isinstance(function, (ast.FunctionDef, ast.Lambda)):
            for node in ast.walk(function):
                if isinstance(node, ast.Name) and isinstance(node.ctx, ast.Store):
                    yield node.id, node.lineno
                elif isinstance(node, ast.arg):
                    yield node.arg, node.lineno


def bound_at_module_level(tree):
    """The names that functions, classes and assignments of a file bind."""
    names = set()
    for node in tree.body:
        if isinstance(node, (ast.FunctionDef, ast.ClassDef)):
            names.add(node.name)
        elif isinstance(node, ast.Assign):
            names.update(each.id for each in node.targets)
    return names


if __name__ == "__main__":
    unittest.main()
