"""The form of the package's files, as far as it can be seen file by file: the rules L1 to L28 of LANGUAGE.md."""

import ast
import builtins
import pathlib
import re

from tests.helpers import Case

ROOT = pathlib.Path(__file__).resolve().parent.parent
PACKAGE = ROOT / "timesfloor"
LIBRARY = {
    "heapq": {"heappush", "heappop", "heapify", "heapreplace", "heappushpop"},
    "math": {"gcd", "lcm", "isqrt", "comb", "perm", "factorial"},
    "itertools": {"product", "combinations", "permutations", "chain", "accumulate", "pairwise", "islice", "zip_longest"},
    "collections": {"defaultdict"},
    "__future__": {"annotations"},
}
BUILTINS = set("""
    len range enumerate zip map min max sum abs sorted reversed int str bool list tuple dict set isinstance ord repr any
    all divmod pow getattr hasattr setattr iter next super property staticmethod classmethod Exception ValueError
    TypeError KeyError IndexError LookupError ZeroDivisionError ArithmeticError OverflowError RuntimeError
    NotImplementedError StopIteration NotImplemented
""".split())
METHODS = set("""
    append clear copy count endswith extend find get index insert isalnum isalpha isdigit islower isspace isupper items
    join keys ljust lower lstrip partition pop remove replace reverse rfind rjust rpartition rsplit rstrip setdefault
    split splitlines startswith strip update upper values zfill bit_length title capitalize swapcase casefold center
    expandtabs removeprefix removesuffix rindex isascii isdecimal isnumeric istitle isidentifier isprintable add discard
    sort format
""".split())
DUNDERS = set("__class__ __name__ __init__ __eq__ __repr__ __str__ __len__ __bool__ __lt__ __iter__ __contains__ __call__".split())
UNUSED = set("""
    register mro elements open input law version_info with_traceback add_note attrgetter breakpoint builtins compile
    copyright credits delattr dir eval exec exit gc globals help id importlib license locals methodcaller os quit type
    vars sys typing typing_extensions enum Enum IntEnum StrEnum Flag IntFlag Generic Protocol ABC ABCMeta namedtuple
    NamedTuple TypedDict TYPE_CHECKING abstractmethod dataclass overload contextmanager chr frozenset bytes eval print
""".split())
BARRED = (ast.Global, ast.AsyncFunctionDef, ast.AsyncFor, ast.AsyncWith, ast.Await, ast.Div, ast.MatMult, ast.Import)
PLAIN_BODY = (ast.ImportFrom, ast.FunctionDef, ast.ClassDef, ast.Assign, ast.Expr)


def trees():
    for path in sorted(PACKAGE.rglob("*.py")):
        yield path.relative_to(PACKAGE).as_posix(), path.read_text(), ast.parse(path.read_text())


def bound_in(target):
    """The names that a target binds, as the tree has them."""
    return [node.id for node in ast.walk(target) if isinstance(node, ast.Name) and isinstance(node.ctx, ast.Store)]


def names_of(tree):
    """The names that a file itself defines."""
    kinds = (ast.FunctionDef, ast.ClassDef)
    return {node.targets[0].id if isinstance(node, ast.Assign) else node.name
            for node in tree.body if isinstance(node, (ast.Assign, *kinds))}


def taken_from_tables(tree):
    """The names that are assigned an item of a table of the module level, to be called."""
    tables = {node.targets[0].id for node in tree.body if isinstance(node, ast.Assign) and isinstance(node.value, ast.Dict)}
    return {node.targets[0].id for node in ast.walk(tree)
            if isinstance(node, ast.Assign) and isinstance(node.targets[0], ast.Name) and isinstance(node.value, ast.Subscript)
            and ast.unparse(node.value.value) in tables}


def imports_of(tree):
    return [node for node in tree.body if isinstance(node, ast.ImportFrom)]


class FormTest(Case):

    def check_each(self, check):
        """Calls check with the source and the tree of each file."""
        for name, source, tree in trees():
            with self.subTest(name):
                check(source, tree)

    def test_files(self):
        paths = [path for path in PACKAGE.rglob("*") if "__pycache__" not in path.parts]
        self.assertLessEqual(len(paths), 100)
        for path in paths:
            self.assertRegex(path.relative_to(PACKAGE).as_posix(), r"^([a-z0-9_]+/)*[a-z0-9_]+(\.py)?$")
            self.assertFalse(path.is_dir() and not (path / "__init__.py").is_file(), path)

    def test_characters_and_sizes(self):
        def check(source, tree):
            self.assertRegex(source, r"\A[ -~\n]*\Z")
            lines = source.splitlines()
            self.assertLessEqual(len(lines), 399)
            self.assertLessEqual(max(map(len, lines), default=0), 120)
            for node in ast.walk(tree):
                if isinstance(node, ast.FunctionDef):
                    self.assertLessEqual(node.end_lineno - node.lineno + 1, 40, node.name)
        self.check_each(check)

    def test_module_level(self):
        def check(source, tree):
            bound = []
            for node in tree.body:
                self.assertIsInstance(node, PLAIN_BODY)
                if isinstance(node, ast.Expr):
                    self.assertIsInstance(node.value.value, str)
                elif isinstance(node, ast.ImportFrom):
                    bound += [alias.asname or alias.name for alias in node.names]
                elif isinstance(node, ast.Assign):
                    self.assertIsInstance(node.targets[0], ast.Name)
                    bound += [node.targets[0].id]
                else:
                    bound += [node.name]
            self.assertEqual(len(bound), len(set(bound)), "a name is bound twice")
        self.check_each(check)

    def test_imports(self):
        defined = {f"timesfloor.{name[:-3].replace('/', '.')}": names_of(tree) for name, _, tree in trees()}

        def check(source, tree):
            inside = [node for node in ast.walk(tree) if isinstance(node, (ast.Import, ast.ImportFrom))]
            self.assertEqual(inside, imports_of(tree), "an import below the module level")
            for node in imports_of(tree):
                self.assertEqual(node.level, 0)
                known = defined.get(node.module) or LIBRARY.get(node.module, set())
                self.assertLessEqual({alias.name for alias in node.names}, known, node.module)
        self.check_each(check)

    def test_imports_are_used(self):
        def check(source, tree):
            used = {node.id for node in ast.walk(tree) if isinstance(node, ast.Name)}
            self.assertLessEqual({alias.name for node in imports_of(tree) for alias in node.names}, used)
        self.check_each(check)

    def test_no_circles(self):
        above = {name[:-3]: [node.module.partition(".")[2] for node in imports_of(tree)
                             if node.module.startswith("timesfloor")] for name, _, tree in trees()}
        done = set()
        while len(done) < len(above):
            ready = [name for name in above if name not in done and done.issuperset(above[name])]
            self.assertTrue(ready, f"files that import from each other: {sorted(set(above) - done)}")
            done.update(ready)

    def test_nodes(self):
        def check(source, tree):
            for node in ast.walk(tree):
                self.assertNotIsInstance(node, BARRED)
                if isinstance(node, ast.Constant):
                    self.assertNotIsInstance(node.value, (float, complex))
                    self.assertNotIn("%", str(node.value))
                if isinstance(node, ast.Compare) and isinstance(node.ops[0], (ast.Is, ast.IsNot)):
                    self.assertIn(ast.unparse(node.comparators[0]), ("None", "True", "False"))
                if isinstance(node, ast.ExceptHandler):
                    self.assertIsNotNone(node.type)
        self.check_each(check)

    def test_names(self):
        def check(source, tree):
            words = [node.id for node in ast.walk(tree) if isinstance(node, ast.Name)]
            words += [node.attr for node in ast.walk(tree) if isinstance(node, ast.Attribute)]
            words += [node.arg for node in ast.walk(tree) if isinstance(node, (ast.arg, ast.keyword))]
            words += [node.name for node in ast.walk(tree) if isinstance(node, (ast.FunctionDef, ast.ClassDef))]
            self.assertFalse(UNUSED.intersection(words))
            for word in words:
                self.assertTrue(re.fullmatch("_|_?[A-Za-z][A-Za-z0-9_]*", word) or word in DUNDERS, word)
        self.check_each(check)

    def test_bound_names_are_their_own(self):
        """No parameter or variable is called as a builtin, a class or an import of its file."""
        def check(source, tree):
            taken = set(dir(builtins))
            taken.update(alias.name for node in imports_of(tree) for alias in node.names)
            taken.update(node.name for node in tree.body if isinstance(node, ast.ClassDef))
            for function in [node for node in ast.walk(tree) if isinstance(node, ast.FunctionDef)]:
                bound = [node.arg for node in ast.walk(function) if isinstance(node, ast.arg)] + bound_in(function)
                self.assertFalse(taken.intersection(bound), function.name)
                self.assertNotIn(function.name, dir(builtins))
        self.check_each(check)

    def test_calls(self):
        """Only builtins of the list are called, and only methods of the list or of the package."""
        own = {node.name for _, _, tree in trees() for node in ast.walk(tree)
               if isinstance(node, (ast.FunctionDef, ast.ClassDef))}

        def check(source, tree):
            known = own | BUILTINS | {alias.name for node in imports_of(tree) for alias in node.names} | taken_from_tables(tree)
            for call in [node for node in ast.walk(tree) if isinstance(node, ast.Call)]:
                if isinstance(call.func, ast.Name):
                    self.assertIn(call.func.id, known)
                else:
                    self.assertIsInstance(call.func, ast.Attribute)
                    self.assertIn(call.func.attr, own | METHODS | DUNDERS)
        self.check_each(check)

    def test_stars(self):
        """Behind a star in a call stand only names, and attributes off a name."""
        def check(source, tree):
            for call in [node for node in ast.walk(tree) if isinstance(node, ast.Call)]:
                for arg in call.args:
                    if isinstance(arg, ast.Starred):
                        self.assertRegex(ast.unparse(arg.value), r"^[a-z_]+(\.[a-z_]+)*$")
        self.check_each(check)

    def test_tables(self):
        """What stands at module level is plain all the way in; lists and dicts contain no list or dict."""
        def check(source, tree):
            functions = {node.name for node in tree.body if isinstance(node, ast.FunctionDef)}
            for node in [node for node in tree.body if isinstance(node, ast.Assign)]:
                for part in ast.walk(node.value):
                    self.assertIsInstance(part, (ast.Constant, ast.Tuple, ast.List, ast.Dict, ast.Name, ast.BinOp, ast.operator,
                                                 ast.UnaryOp, ast.unaryop, ast.expr_context))
                    if isinstance(part, ast.Name):
                        self.assertIn(part.id, functions)
                    if part is not node.value:
                        self.assertNotIsInstance(part, (ast.List, ast.Dict))
        self.check_each(check)

    def test_beside_a_class_that_compares(self):
        """No generator expression stands alone in these builtins, and no list is sorted in place."""
        def check(source, tree):
            self.assertNotIn(".sort(", source)
            for call in [node for node in ast.walk(tree) if isinstance(node, ast.Call)]:
                if ast.unparse(call.func) in ("any", "all", "min", "max", "sum", "sorted"):
                    self.assertFalse([arg for arg in call.args if isinstance(arg, ast.GeneratorExp)])
        self.check_each(check)
