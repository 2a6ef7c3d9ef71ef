"""The rules of the language that the package is written in, as far as they can be seen by reading its files."""

import ast
import builtins
import os
import re
import symtable
import unittest

FOLDER = os.path.join(os.path.dirname(os.path.dirname(os.path.abspath(__file__))), "latestshake")
LIBRARY = {
    "heapq": {"heappush", "heappop", "heapify", "heapreplace", "heappushpop"},
    "math": {"gcd", "lcm", "isqrt", "comb", "perm", "factorial"},
    "itertools": {"product", "combinations", "permutations", "chain", "accumulate", "pairwise", "islice", "zip_longest"},
    "collections": {"defaultdict", "deque"},
}
BUILTINS = set(
    "len range enumerate zip min max sum abs sorted reversed int str bool list tuple dict set isinstance ord repr any all"
    " divmod map iter next Exception ValueError TypeError KeyError IndexError LookupError ZeroDivisionError"
    " ArithmeticError OverflowError RuntimeError NotImplementedError NotImplemented property staticmethod classmethod"
    " super".split())
BARRED_NODES = (ast.AsyncFunctionDef, ast.AsyncFor, ast.AsyncWith, ast.Await, ast.Global, ast.Import, ast.Div, ast.MatMult)
METHODS = set(
    "append clear copy count endswith extend find get index insert isalnum isalpha isdigit islower isspace isupper items"
    " join keys ljust lower lstrip partition pop remove replace reverse rfind rjust rpartition rsplit rstrip setdefault"
    " split splitlines startswith strip update upper values zfill bit_length removeprefix removesuffix isascii add discard"
    " sort appendleft popleft".split())
UNUSED = set("register mro elements open input law version_info with_traceback add_note".split())
BARRED_WORDS = re.compile(
    r"\b(type|typing|typing_extensions|enum|Enum|IntEnum|StrEnum|Flag|IntFlag|Generic|Protocol|ABC|ABCMeta|namedtuple"
    r"|NamedTuple|TypedDict|TYPE_CHECKING|abstractmethod|_wall|_WallAttr)\b|dataclass|overload|contextmanager")


def files():
    return sorted(os.listdir(FOLDER))


def source(name):
    with open(os.path.join(FOLDER, name), encoding="utf-8", newline="") as file:
        return file.read()


def trees():
    return [(name, ast.parse(source(name))) for name in files() if name.endswith(".py")]


def docstrings(tree):
    owners = (ast.Module, ast.ClassDef, ast.FunctionDef)
    return {id(node.body[0].value) for node in ast.walk(tree)
            if isinstance(node, owners) and node.body and isinstance(node.body[0], ast.Expr)}


def local_names(table):
    for inner in table.get_children():
        if inner.get_type() == "function":
            yield from [symbol.get_name() for symbol in inner.get_symbols() if symbol.is_local()]
        yield from local_names(inner)


class Language(unittest.TestCase):
    def test_files(self):
        names = [name for name in files() if name != "__pycache__"]
        self.assertIn("__init__.py", names)
        for name in names:
            self.assertRegex(name, r"\A[a-z0-9_]+\.py\Z")
            lines = source(name).split("\n")
            self.assertLessEqual(len(lines), 399, name)
            for line in lines:
                self.assertRegex(line, r"\A[ -~]{0,120}\Z", name)
                self.assertEqual(line, line.rstrip(), name)

    def test_functions_are_small(self):
        for name, tree in trees():
            for node in ast.walk(tree):
                if isinstance(node, ast.FunctionDef):
                    self.assertLessEqual(node.end_lineno - node.lineno + 1, 40, (name, node.name))

    def test_imports(self):
        reached = {}
        for name, tree in trees():
            reached[name] = set()
            for node in ast.walk(tree):
                if isinstance(node, ast.ImportFrom):
                    self.assertEqual((node.level, [row.asname for row in node.names]), (0, [None] * len(node.names)))
                    words = {row.name for row in node.names}
                    if node.module in LIBRARY:
                        self.assertLessEqual(words, LIBRARY[node.module])
                        continue
                    package, _, module = node.module.partition(".")
                    self.assertEqual(package, "latestshake", name)
                    reached[name].add(module + ".py")
                    self.assertLessEqual(words, self.defined(module + ".py"), name)
        while reached:
            free = [name for name in reached if not reached[name] & set(reached)]
            self.assertTrue(free, f"these import from each other: {sorted(reached)}")
            reached = {name: reached[name] for name in reached if name not in free}

    def defined(self, name):
        """What a file defines itself: names that it imports are none."""
        found = set()
        for node in ast.parse(source(name)).body:
            if isinstance(node, (ast.FunctionDef, ast.ClassDef)):
                found.add(node.name)
            if isinstance(node, ast.Assign):
                found |= {target.id for target in node.targets}
        return found

    def test_library_is_only_called(self):
        for name, tree in trees():
            words = {row.name for node in tree.body if isinstance(node, ast.ImportFrom) and node.module in LIBRARY
                     for row in node.names}
            called = set()
            for node in ast.walk(tree):
                if isinstance(node, ast.Call) and isinstance(node.func, ast.Name) and node.func.id in words:
                    called.add(id(node.func))
                    self.assertEqual(node.keywords, [], (name, node.lineno))
                    self.assertFalse(any(isinstance(row, ast.Starred) for row in node.args), (name, node.lineno))
            for node in ast.walk(tree):
                if isinstance(node, ast.Name) and node.id in words:
                    self.assertIn(id(node), called, (name, node.lineno))

    def test_module_level(self):
        allowed = (ast.ImportFrom, ast.FunctionDef, ast.ClassDef, ast.Assign)
        for name, tree in trees():
            names = []
            for index, node in enumerate(tree.body):
                if index == 0 and isinstance(node, ast.Expr):
                    continue
                self.assertIsInstance(node, allowed, name)
                if isinstance(node, ast.ImportFrom):
                    names += [row.name for row in node.names]
                elif isinstance(node, ast.Assign):
                    self.assertTrue(len(node.targets) == 1 and isinstance(node.targets[0], ast.Name))
                    names.append(node.targets[0].id)
                else:
                    names.append(node.name)
            self.assertEqual(len(names), len(set(names)), name)

    def test_statements_and_values(self):
        for name, tree in trees():
            texts = docstrings(tree)
            for node in ast.walk(tree):
                self.assertNotIsInstance(node, BARRED_NODES, (name, getattr(node, "lineno", None)))
                if isinstance(node, ast.Constant):
                    self.assertNotIsInstance(node.value, (float, complex), name)
                    if isinstance(node.value, str) and id(node) not in texts:
                        self.assertIsNone(re.search("%|" + BARRED_WORDS.pattern, node.value), (name, node.lineno))
                if isinstance(node, ast.BinOp) and isinstance(node.op, ast.Pow):
                    self.assertTrue(isinstance(node.right, ast.Constant) and 0 <= node.right.value <= 64, name)
                if isinstance(node, ast.Compare) and isinstance(node.ops[0], (ast.Is, ast.IsNot)):
                    self.assertIsInstance(node.comparators[0], ast.Constant, name)

    def test_names(self):
        methods = METHODS | {node.name for _, tree in trees() for node in ast.walk(tree) if isinstance(node, ast.FunctionDef)}
        for name, tree in trees():
            defined = self.defined(name)
            imported = {row.name for node in tree.body if isinstance(node, ast.ImportFrom) for row in node.names}
            inner = set(local_names(symtable.symtable(source(name), name, "exec")))
            self.assertEqual(sorted(inner & imported), [], name)
            self.assertEqual(sorted((inner | defined) & set(dir(builtins))), [], name)
            for node in ast.walk(tree):
                if isinstance(node, ast.Name):
                    self.assertNotIn(node.id, UNUSED)
                    self.assertNotRegex(node.id, BARRED_WORDS)
                    if node.id not in inner | imported | defined:
                        self.assertIn(node.id, BUILTINS, (name, node.lineno))
                if isinstance(node, ast.Attribute):
                    self.assertNotIn(node.attr, UNUSED)
                if isinstance(node, ast.Call) and isinstance(node.func, ast.Attribute):
                    self.assertIn(node.func.attr, methods, (name, node.lineno))


if __name__ == "__main__":
    unittest.main()
