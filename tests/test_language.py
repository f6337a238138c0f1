"""The rules of the language that a reading of the package's files can check."""

import ast
import builtins
import pathlib
import re
import unittest
import warnings

FOLDER = pathlib.Path(__file__).resolve().parent.parent / "drumlay"
FILES = sorted(FOLDER.glob("*.py"))

ALLOWED_BUILTINS = set(
    "len range enumerate zip min max sum abs sorted reversed int str bool list tuple dict set frozenset isinstance "
    "ord repr any all divmod pow getattr hasattr setattr iter next map super property staticmethod classmethod "
    "Exception ValueError TypeError KeyError IndexError LookupError ZeroDivisionError ArithmeticError OverflowError "
    "RuntimeError NotImplementedError AttributeError StopIteration NotImplemented".split()
)
LIBRARY = {
    "heapq": {"heappush", "heappop", "heapify", "heapreplace", "heappushpop"},
    "math": {"gcd", "lcm", "isqrt", "comb", "perm", "factorial"},
    "itertools": {
        "product", "combinations", "permutations", "chain", "accumulate", "pairwise", "islice", "zip_longest",
    },
    "collections": {"defaultdict"},
}
BARRED_NODES = (
    ast.Global, ast.AsyncFunctionDef, ast.AsyncFor, ast.AsyncWith, ast.Await, ast.Div, ast.Import, ast.AnnAssign,
)
BARRED_NAMES = set("register mro elements open input law version_info with_traceback add_note".split())
BARRED_WORDS = re.compile(
    r"\b(type|typing|typing_extensions|enum|Enum|IntEnum|StrEnum|Flag|IntFlag|Generic|Protocol|ABC|ABCMeta"
    r"|namedtuple|NamedTuple|TypedDict|TYPE_CHECKING|abstractmethod)\b|dataclass|overload|contextmanager"
)
METHODS = set(
    "append clear copy count endswith extend find get index insert isalnum isalpha isdigit islower isspace isupper "
    "items join keys ljust lower lstrip partition pop remove replace reverse rfind rjust rpartition rsplit rstrip "
    "setdefault split splitlines startswith strip update upper values zfill bit_length sort add discard".split()
)
INTERFACE = {
    "errors.py": [
        "DrumError", "BadProgram", "BadLaying", "BadFuel", "BadGoes", "BadPaper", "TooMany", "Over", "BadText",
    ],
    "plain.py": ["run"],
    "layings.py": ["costs", "beats"],
    "drums.py": ["Drum", "spun"],
    "best.py": ["best"],
    "papers.py": ["bound", "paper"],
    "loops.py": ["loops", "loop_beats"],
    "images.py": ["tracks", "image", "reeled"],
    "notes.py": ["written", "read"],
}


def trees():
    return [(path.name, ast.parse(path.read_text(encoding="utf-8"))) for path in FILES]


def bound_names(tree):
    """All names that a file binds, but for methods."""
    methods = {
        id(node) for owner in ast.walk(tree) if isinstance(owner, ast.ClassDef) for node in owner.body
    }
    for node in ast.walk(tree):
        if isinstance(node, ast.Name) and not isinstance(node.ctx, ast.Load):
            yield node.id
        elif isinstance(node, ast.arg):
            yield node.arg
        elif isinstance(node, (ast.FunctionDef, ast.ClassDef)) and id(node) not in methods:
            yield node.name
        elif isinstance(node, ast.ExceptHandler) and node.name:
            yield node.name


def docstrings(tree):
    return {
        id(node.body[0].value)
        for node in ast.walk(tree)
        if isinstance(node, (ast.Module, ast.ClassDef, ast.FunctionDef)) and ast.get_docstring(node) is not None
    }


class Files(unittest.TestCase):
    def test_the_folder_holds_plain_files_only(self):
        for path in FOLDER.iterdir():
            if path.name != "__pycache__":
                self.assertRegex(path.name, r"^[a-z_][a-z0-9_]*\.py$")
                self.assertTrue(path.is_file())
        self.assertIn("__init__.py", [path.name for path in FILES])

    def test_characters_and_sizes(self):
        for path in FILES:
            text = path.read_bytes().decode("ascii")
            self.assertEqual([sign for sign in text if sign != "\n" and not " " <= sign <= "~"], [], path.name)
            self.assertLessEqual(len(text.splitlines()), 399, path.name)
            self.assertLessEqual(max(len(line) for line in text.splitlines()), 120, path.name)

    def test_functions_are_small(self):
        for name, tree in trees():
            for node in ast.walk(tree):
                if isinstance(node, ast.FunctionDef):
                    self.assertLessEqual(node.end_lineno - node.lineno + 1, 40, (name, node.name))

    def test_no_warnings(self):
        with warnings.catch_warnings():
            warnings.simplefilter("error")
            for path in FILES:
                compile(path.read_text(encoding="utf-8"), path.name, "exec")

    def test_the_interface_is_defined_where_it_is_listed(self):
        found = dict(trees())
        for name, wanted in INTERFACE.items():
            defined = [node.name for node in found[name].body if isinstance(node, (ast.FunctionDef, ast.ClassDef))]
            self.assertEqual([one for one in wanted if one not in defined], [], name)


class Imports(unittest.TestCase):
    def test_each_names_the_file_that_defines_it(self):
        defined = {name: set(bound_names(tree)) for name, tree in trees()}
        for name, tree in trees():
            for node in ast.walk(tree):
                if not isinstance(node, ast.ImportFrom):
                    continue
                self.assertIn(node, tree.body, name)
                self.assertEqual(node.level, 0, name)
                names = {alias.name for alias in node.names}
                if node.module in LIBRARY:
                    self.assertLessEqual(names, LIBRARY[node.module], name)
                else:
                    package, file = node.module.split(".")
                    self.assertEqual(package, "drumlay", name)
                    self.assertLessEqual(names, defined[file + ".py"], name)

    def test_no_two_files_import_from_each_other(self):
        uses = {}
        for name, tree in trees():
            modules = [node.module for node in ast.walk(tree) if isinstance(node, ast.ImportFrom)]
            uses[name] = {module.split(".")[1] + ".py" for module in modules if module.startswith("drumlay.")}
        while uses:
            free = [name for name, needs in uses.items() if not needs & set(uses)]
            self.assertNotEqual(free, [], uses)
            for name in free:
                del uses[name]

    def test_no_name_hides_an_import_or_a_class(self):
        for name, tree in trees():
            taken = [
                alias.name for node in tree.body if isinstance(node, ast.ImportFrom) for alias in node.names
            ]
            taken += [node.name for node in tree.body if isinstance(node, ast.ClassDef)]
            self.assertEqual(len(taken), len(set(taken)), name)
            bound = list(bound_names(tree))
            for one in taken:
                defined = one in [node.name for node in tree.body if isinstance(node, ast.ClassDef)]
                self.assertEqual(bound.count(one), int(defined), (name, one))


class Names(unittest.TestCase):
    def test_no_name_is_that_of_a_builtin(self):
        for name, tree in trees():
            self.assertEqual([one for one in bound_names(tree) if one in dir(builtins)], [], name)

    def test_no_barred_names(self):
        for name, tree in trees():
            used = set(bound_names(tree))
            used |= {node.attr for node in ast.walk(tree) if isinstance(node, ast.Attribute)}
            used |= {node.id for node in ast.walk(tree) if isinstance(node, ast.Name)}
            self.assertEqual(used & BARRED_NAMES, set(), name)

    def test_only_the_builtins_that_are_allowed(self):
        for name, tree in trees():
            read = {node.id for node in ast.walk(tree) if isinstance(node, ast.Name)}
            self.assertEqual(sorted((read & set(dir(builtins))) - ALLOWED_BUILTINS), [], name)

    def test_only_the_methods_that_are_allowed(self):
        own = {node.name for _, tree in trees() for node in ast.walk(tree) if isinstance(node, ast.FunctionDef)}
        for name, tree in trees():
            called = [
                node.func.attr for node in ast.walk(tree)
                if isinstance(node, ast.Call) and isinstance(node.func, ast.Attribute)
            ]
            self.assertEqual([one for one in called if one not in METHODS | own], [], name)


class Parts(unittest.TestCase):
    def test_no_barred_parts(self):
        for name, tree in trees():
            for node in ast.walk(tree):
                self.assertNotIsInstance(node, BARRED_NODES, name)
                if isinstance(node, ast.Constant):
                    self.assertNotIsInstance(node.value, (float, complex), name)

    def test_strings(self):
        for name, tree in trees():
            documented = docstrings(tree)
            for node in ast.walk(tree):
                if isinstance(node, ast.Constant) and isinstance(node.value, str):
                    self.assertNotIn("%", node.value, name)
                    if id(node) not in documented:
                        self.assertIsNone(BARRED_WORDS.search(node.value), (name, node.value))

    def test_modules_hold_plain_things_only(self):
        plain = (ast.FunctionDef, ast.ClassDef, ast.ImportFrom, ast.Assign, ast.Expr)
        for name, tree in trees():
            for node in tree.body:
                self.assertIsInstance(node, plain, name)
                if isinstance(node, ast.Expr):
                    self.assertIn(id(node.value), docstrings(tree), name)


if __name__ == "__main__":
    unittest.main()
