"""A part of the rules of LANGUAGE.md, as far as they can be read off the files."""

import ast
import builtins
import pathlib
import re
import unittest

PACKAGE = pathlib.Path(__file__).resolve().parent.parent / "hushpapers"
FILES = sorted(PACKAGE.glob("*.py"))
LIBRARY = {
    "math": {"gcd", "lcm", "isqrt", "comb", "perm", "factorial"},
    "heapq": {"heappush", "heappop", "heapify", "heapreplace", "heappushpop"},
    "itertools": {"chain", "accumulate", "pairwise", "islice", "zip_longest"},
    "collections": {"defaultdict"},
}
BUILTINS = set(
    "len range enumerate zip min max sum abs sorted reversed int str bool list tuple dict set isinstance ord "
    "repr any all divmod iter next super property staticmethod classmethod map getattr hasattr setattr "
    "Exception ValueError TypeError KeyError IndexError LookupError ZeroDivisionError ArithmeticError "
    "OverflowError RuntimeError NotImplementedError StopIteration NotImplemented".split()
)
ALL_BUILTINS = set(dir(builtins))
METHODS = set(
    "append clear copy count endswith extend find get index insert isalnum isalpha isdigit islower isspace "
    "isupper items join keys ljust lower lstrip partition pop remove replace reverse rfind rjust rpartition "
    "rsplit rstrip setdefault split splitlines startswith strip update upper values zfill bit_length add "
    "discard title capitalize swapcase casefold center expandtabs removeprefix removesuffix rindex isascii "
    "isdecimal isnumeric istitle isidentifier isprintable __init__ from_iterable sort".split()
)
BARRED_NAMES = set("register mro elements open input law version_info with_traceback add_note".split())
BARRED_WORDS = re.compile(
    r"\b(typing|typing_extensions|enum|Enum|IntEnum|StrEnum|Flag|IntFlag|Generic|Protocol|ABC|ABCMeta|"
    r"namedtuple|NamedTuple|TypedDict|TYPE_CHECKING|abstractmethod)\b|dataclass|overload|contextmanager|_wall"
)
BARRED_NODES = (
    ast.Global, ast.AsyncFunctionDef, ast.Await, ast.AsyncFor, ast.AsyncWith,
    ast.Import, ast.AnnAssign, ast.SetComp, ast.Div, ast.MatMult,
)


def trees():
    return [(path, ast.parse(path.read_text(encoding="utf-8"))) for path in FILES]


def imports_of(tree):
    return [node for node in tree.body if isinstance(node, ast.ImportFrom)]


class Language(unittest.TestCase):
    def test_there_are_files(self):
        self.assertGreater(len(FILES), 5)

    def test_folder_holds_nothing_else(self):
        for path in PACKAGE.iterdir():
            if path.name != "__pycache__":
                self.assertRegex(path.name, r"^[a-z_][a-z0-9_]*\.py$")

    def test_size_and_characters(self):
        for path in FILES:
            text = path.read_text(encoding="utf-8")
            self.assertLessEqual(text.count("\n"), 399, path.name)
            for line in text.split("\n"):
                self.assertLessEqual(len(line), 120, path.name)
            self.assertEqual([c for c in text if c != "\n" and not " " <= c <= "~"], [], path.name)
            self.assertIsNone(BARRED_WORDS.search(text), path.name)

    def test_size_of_functions(self):
        for path, tree in trees():
            for node in ast.walk(tree):
                if isinstance(node, ast.FunctionDef):
                    self.assertLessEqual(node.end_lineno - node.lineno + 1, 40, f"{path.name} {node.name}")

    def test_imports(self):
        for path, tree in trees():
            for node in ast.walk(tree):
                if isinstance(node, ast.ImportFrom):
                    self.assertIn(node, tree.body, path.name)
                    self.assertEqual(node.level, 0, path.name)
                    names = [alias.name for alias in node.names]
                    self.assertTrue(all(alias.asname is None for alias in node.names), path.name)
                    if node.module in LIBRARY:
                        self.assertLessEqual(set(names), LIBRARY[node.module], path.name)
                    else:
                        self.check_own_import(path, node.module, names)

    def check_own_import(self, path, imported, names):
        self.assertRegex(imported, r"^hushpapers\.[a-z_]+$", path.name)
        source = ast.parse((PACKAGE / (imported.split(".")[1] + ".py")).read_text(encoding="utf-8"))
        made = {getattr(node, "name", None) for node in source.body}
        for node in source.body:
            if isinstance(node, ast.Assign):
                made.update(target.id for target in node.targets)
        self.assertLessEqual(set(names), made, path.name)

    def test_every_import_is_used(self):
        for path, tree in trees():
            used = {node.id for node in ast.walk(tree) if isinstance(node, ast.Name)}
            for node in imports_of(tree):
                self.assertLessEqual({alias.name for alias in node.names}, used, path.name)

    def test_no_two_files_import_each_other(self):
        needs = {
            path.stem: {
                node.module.split(".")[1] for node in imports_of(tree) if node.module not in LIBRARY
            }
            for path, tree in trees()
        }
        while needs:
            free = [name for name, others in needs.items() if not others & set(needs)]
            self.assertTrue(free, f"a circle among {sorted(needs)}")
            for name in free:
                del needs[name]

    def test_module_level(self):
        for path, tree in trees():
            for node in tree.body:
                plain = isinstance(node, (ast.ImportFrom, ast.FunctionDef, ast.ClassDef, ast.Assign))
                docstring = isinstance(node, ast.Expr) and isinstance(node.value, ast.Constant)
                self.assertTrue(plain or docstring, f"{path.name}:{node.lineno}")

    def test_nodes_and_builtins(self):
        for path, tree in trees():
            for node in ast.walk(tree):
                place = f"{path.name}:{getattr(node, 'lineno', '')}"
                self.assertNotIsInstance(node, BARRED_NODES, place)
                if isinstance(node, ast.Name) and node.id in ALL_BUILTINS:
                    self.assertIn(node.id, BUILTINS, place)
                    self.assertIsInstance(node.ctx, ast.Load, place)
                if isinstance(node, ast.Constant):
                    self.assertNotIsInstance(node.value, float, place)
                    self.assertNotIn("%", str(node.value), place)
                if isinstance(node, ast.BinOp) and isinstance(node.op, ast.Pow):
                    self.assertIsInstance(node.right, ast.Constant, place)
                if isinstance(node, (ast.FunctionDef, ast.ClassDef)):
                    for decorator in node.decorator_list:
                        self.assertIn(ast.unparse(decorator), ("property", "classmethod", "staticmethod"), place)

    def test_names(self):
        for path, tree in trees():
            top = {alias.name for node in imports_of(tree) for alias in node.names}
            top.update(node.name for node in tree.body if isinstance(node, ast.ClassDef))
            for node in ast.walk(tree):
                place = f"{path.name}:{getattr(node, 'lineno', '')}"
                name = getattr(node, "id", None) or getattr(node, "arg", None) or getattr(node, "attr", None)
                self.assertNotIn(name, BARRED_NAMES, place)
                if isinstance(node, ast.arg) or isinstance(node, ast.Name) and isinstance(node.ctx, ast.Store):
                    self.assertNotIn(name, top, place)
                    self.assertNotIn(name, ALL_BUILTINS, place)
                    self.assertRegex(name, r"^(_|_?[A-Za-z][A-Za-z0-9_]*)$", place)
                if isinstance(node, (ast.FunctionDef, ast.ClassDef)):
                    self.assertNotIn(node.name, BARRED_NAMES | {"type", "id", "hash", "map"}, place)

    def test_methods_are_own_or_plain(self):
        own = set()
        for _, tree in trees():
            for node in ast.walk(tree):
                if isinstance(node, ast.FunctionDef):
                    own.add(node.name)
        for path, tree in trees():
            for node in ast.walk(tree):
                if isinstance(node, ast.Call) and isinstance(node.func, ast.Attribute):
                    self.assertIn(node.func.attr, own | METHODS, f"{path.name}:{node.lineno}")

    def test_raise_makes_an_own_error_on_the_spot(self):
        for path, tree in trees():
            for node in ast.walk(tree):
                if isinstance(node, ast.Raise) and node.exc is not None:
                    self.assertIsInstance(node.exc, ast.Call, f"{path.name}:{node.lineno}")
                    self.assertIsInstance(node.exc.func, ast.Name, f"{path.name}:{node.lineno}")
