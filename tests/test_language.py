"""What can be seen mechanically of the rules that the package's code keeps; the rules' numbers stand in the messages.

A rule that is not looked at here holds all the same.
"""

import ast
import builtins
import re
import unittest
from pathlib import Path

PACKAGE = Path(__file__).resolve().parent.parent / "bodyforbody"
LIBRARY = {"heapq": "heappush heappop heapify heapreplace heappushpop", "math": "gcd lcm isqrt comb perm factorial",
           "itertools": "product combinations permutations chain accumulate pairwise islice zip_longest",
           "collections": "defaultdict"}
BUILTINS = set("""len range enumerate zip min max sum abs sorted reversed int str bool bytes list tuple dict set frozenset
isinstance ord repr any all divmod pow getattr hasattr setattr map iter next Exception ValueError TypeError KeyError
IndexError LookupError ZeroDivisionError ArithmeticError OverflowError RuntimeError NotImplementedError AttributeError
StopIteration NotImplemented property staticmethod classmethod super""".split())
METHODS = set("""append clear copy count endswith extend find get index insert isalnum isalpha isdigit islower isspace
isupper items join keys ljust lower lstrip partition pop remove replace reverse rfind rjust rpartition rsplit rstrip
setdefault split splitlines startswith strip update upper values zfill bit_length title capitalize swapcase casefold
center expandtabs removeprefix removesuffix rindex isascii isdecimal isnumeric istitle isidentifier isprintable
translate encode decode hex format add discard""".split())
NOWHERE = set("register mro elements open input law version_info with_traceback add_note".split())
NO_NAMES = NOWHERE | set("""attrgetter breakpoint builtins compile copyright credits delattr dir eval exec exit gc globals
help id importlib license locals methodcaller os quit type vars sys""".split())
# The rule leaves out comments and docstrings; none of these words is wanted there, either.
NO_WORDS = re.compile(r"\b(typing|typing_extensions|enum|Enum|IntEnum|StrEnum|Flag|IntFlag|Generic|Protocol|ABC|ABCMeta|"
                      r"namedtuple|NamedTuple|TypedDict|TYPE_CHECKING|abstractmethod)\b|dataclass|overload|"
                      r"contextmanager|_wall\b|_WallAttr")
TAKERS = {"list", "tuple", "dict", "sorted", "sum", "any", "all", "enumerate", "zip", "min", "max"}
AT_ONCE = {"zip", "enumerate", "reversed", "range"}


def sources():
    return [(path, path.read_text(encoding="utf-8")) for path in sorted(PACKAGE.glob("*.py"))]


def trees():
    return {path.stem: ast.parse(text) for path, text in sources()}


def called(node):
    """The bare name that a node calls, "" for anything else."""
    return node.func.id if isinstance(node, ast.Call) and isinstance(node.func, ast.Name) else ""


def parents_of(tree):
    return {child: node for node in ast.walk(tree) for child in ast.iter_child_nodes(node)}


def bound_names(tree):
    """Each name that is bound anywhere, with the node that binds it."""
    for node in ast.walk(tree):
        if isinstance(node, (ast.FunctionDef, ast.ClassDef)):
            yield node.name, node
        elif isinstance(node, ast.arg):
            yield node.arg, node
        elif isinstance(node, ast.Name) and isinstance(node.ctx, ast.Store):
            yield node.id, node


def module_names(tree):
    for node in tree.body:
        if isinstance(node, (ast.FunctionDef, ast.ClassDef)):
            yield node.name
        elif isinstance(node, ast.Assign):
            yield node.targets[0].id
        elif isinstance(node, ast.ImportFrom):
            yield from [alias.name for alias in node.names]


class Files(unittest.TestCase):
    def test_names_characters_and_sizes(self):
        entries = [path for path in PACKAGE.iterdir() if path.name != "__pycache__"]
        self.assertEqual([], [path.name for path in entries if not re.fullmatch(r"[a-z0-9_]+\.py", path.name)], "L1")
        self.assertLessEqual(len(entries), 100, "L14")
        for path, text in sources():
            self.assertTrue(all(" " <= letter <= "~" or letter == "\n" for letter in text), f"L14 {path.name}")
            lines = text.split("\n")
            self.assertLessEqual(len(lines), 399, f"L10 {path.name}")
            self.assertLessEqual(max(len(line) for line in lines), 120, f"L10 {path.name}")
            self.assertIsNone(NO_WORDS.search(text), f"L12, L17 {path.name}")

    def test_functions_have_at_most_40_lines(self):
        for name, tree in trees().items():
            for node in ast.walk(tree):
                if isinstance(node, ast.FunctionDef):
                    self.assertLessEqual(node.end_lineno - node.lineno + 1, 40, f"L10 {name}.{node.name}")


class Modules(unittest.TestCase):
    def test_what_stands_at_module_level(self):
        for name, tree in trees().items():
            for node in tree.body:
                kinds = (ast.ImportFrom, ast.FunctionDef, ast.ClassDef, ast.Assign)
                docstring = isinstance(node, ast.Expr) and isinstance(node.value, ast.Constant)
                self.assertTrue(docstring or isinstance(node, kinds), f"L3 {name}:{node.lineno}")
                if isinstance(node, ast.Assign):
                    self.assertEqual(1, len(node.targets), f"L3 {name}:{node.lineno}")
                    self.assertIsInstance(node.targets[0], ast.Name, f"L3 {name}:{node.lineno}")

    def test_imports(self):
        own = trees()
        for name, tree in own.items():
            for node in ast.walk(tree):
                self.assertNotIsInstance(node, ast.Import, f"L16 {name}")
                if isinstance(node, ast.ImportFrom):
                    self.assertIn(node, tree.body, f"L2 {name}")
                    self.assertEqual([None], list({alias.asname for alias in node.names}), f"L2 {name}")
                    self.check_import(own, name, node)

    def check_import(self, own, name, node):
        names = {alias.name for alias in node.names}
        if node.module in LIBRARY:
            self.assertLessEqual(names, set(LIBRARY[node.module].split()), f"L2 {name}")
            return
        self.assertRegex(node.module, r"^bodyforbody\.[a-z0-9_]+$", f"L2 {name}")
        defined = own[node.module.split(".")[1]].body
        found = {each.name for each in defined if isinstance(each, (ast.FunctionDef, ast.ClassDef))}
        found |= {each.targets[0].id for each in defined if isinstance(each, ast.Assign)}
        self.assertLessEqual(names, found, f"L16 {name}")

    def test_no_two_files_import_from_each_other(self):
        left = {name: {node.module.split(".")[1] for node in tree.body if isinstance(node, ast.ImportFrom)
                       and node.module not in LIBRARY} for name, tree in trees().items()}
        while left:
            free = [name for name, wanted in left.items() if not wanted & set(left)]
            self.assertTrue(free, f"L16 {sorted(left)}")
            left = {name: wanted for name, wanted in left.items() if name not in free}

    def test_each_import_is_used(self):
        for name, tree in trees().items():
            used = {node.id for node in ast.walk(tree) if isinstance(node, ast.Name)}
            for node in tree.body:
                if isinstance(node, ast.ImportFrom):
                    self.assertLessEqual({alias.name for alias in node.names}, used, name)


class Names(unittest.TestCase):
    def test_bound_names(self):
        for name, tree in trees().items():
            imported = {alias.name for node in tree.body if isinstance(node, ast.ImportFrom) for alias in node.names}
            level = list(module_names(tree))
            self.assertEqual(len(level), len(set(level)), f"L15 {name}")
            for word, node in bound_names(tree):
                where = f"{name}:{node.lineno} {word}"
                if word.startswith("__"):
                    self.assertIsInstance(node, ast.FunctionDef, f"L8 {where}")
                    continue
                self.assertRegex(word, r"^(_|_?[A-Za-z][A-Za-z0-9_]*)$", f"L12 {where}")
                # A doctest leaves its last answer among the builtins, as `_`.
                self.assertFalse(word != "_" and hasattr(builtins, word), f"L15 {where}")
                self.assertNotIn(word, NO_NAMES, f"L17 {where}")
                self.assertNotIn(word, imported, f"L15 {where}")

    def test_read_names(self):
        for name, tree in trees().items():
            known = {word for word, _ in bound_names(tree)} | set(module_names(tree))
            for node in ast.walk(tree):
                if isinstance(node, ast.Name) and isinstance(node.ctx, ast.Load):
                    self.assertIn(node.id, known | BUILTINS, f"L8 {name}:{node.lineno}")
                    self.assertNotEqual("_", node.id, f"L12 {name}:{node.lineno}")

    def test_methods_and_attributes(self):
        own = {node.attr for tree in trees().values() for node in ast.walk(tree)
               if isinstance(node, ast.Attribute) and isinstance(node.ctx, ast.Store)}
        own |= {row.name for tree in trees().values() for node in ast.walk(tree) if isinstance(node, ast.ClassDef)
                for row in node.body if isinstance(row, ast.FunctionDef)}
        for name, tree in trees().items():
            for node in ast.walk(tree):
                if isinstance(node, ast.Attribute):
                    self.assertIn(node.attr, own | METHODS, f"L18, L25 {name}:{node.lineno}")
                    self.assertNotIn(node.attr, NOWHERE, f"L17 {name}:{node.lineno}")


class Expressions(unittest.TestCase):
    def test_plain_ones(self):
        for name, tree in trees().items():
            for node in ast.walk(tree):
                where = f"{name}:{getattr(node, 'lineno', 0)}"
                self.assertNotIsInstance(node, (ast.Global, ast.AsyncFunctionDef, ast.Await, ast.Div), f"L6, L7 {where}")
                if isinstance(node, ast.Constant):
                    self.assertNotIsInstance(node.value, (float, complex), f"L7 {where}")
                    self.assertNotIn("%", str(node.value), f"L27 {where}")
                if isinstance(node, ast.BinOp) and isinstance(node.op, ast.Pow):
                    self.assertIsInstance(node.right, ast.Constant, f"L27 {where}")
                if isinstance(node, ast.Compare) and isinstance(node.ops[0], (ast.Is, ast.IsNot)):
                    right = node.comparators[0]
                    self.assertNotIsInstance(getattr(right, "value", None), (str, bytes), f"L20 {where}")

    def test_no_generator_where_a_class_compares(self):
        for name, tree in trees().items():
            for node in ast.walk(tree):
                if called(node) in ("any", "all", "min", "max", "sum", "sorted"):
                    self.assertFalse([arg for arg in node.args if isinstance(arg, ast.GeneratorExp)],
                                     f"L7 {name}:{node.lineno}")

    def test_iterated_at_once(self):
        for name, tree in trees().items():
            parents = parents_of(tree)
            for node in ast.walk(tree):
                view = isinstance(node, ast.Call) and isinstance(node.func, ast.Attribute)
                if called(node) in AT_ONCE or view and node.func.attr in ("items", "keys", "values"):
                    above = parents[node]
                    looped = isinstance(above, (ast.For, ast.comprehension)) and above.iter is node
                    kept = isinstance(above, ast.Assign) and isinstance(above.targets[0], ast.Name)
                    turned = called(above) == "reversed" and called(node) == "range"
                    self.assertTrue(looped or kept or turned or called(above) in TAKERS, f"L23 {name}:{node.lineno}")

    def test_sets(self):
        for name, tree in trees().items():
            parents = parents_of(tree)
            for node in ast.walk(tree):
                if called(node) == "set" or isinstance(node, (ast.Set, ast.SetComp)):
                    above = parents[node]
                    stored = isinstance(above, ast.Assign) and isinstance(above.targets[0], ast.Name)
                    self.assertTrue(stored or called(above) in ("sorted", "len")
                                    or isinstance(above, (ast.Compare, ast.BinOp)), f"L24 {name}:{node.lineno}")

    def test_errors_are_made_where_they_are_raised(self):
        for name, tree in trees().items():
            for node in ast.walk(tree):
                if isinstance(node, ast.Raise) and node.exc is not None:
                    self.assertTrue(called(node.exc), f"L19 {name}:{node.lineno}")

    def test_only_own_errors_are_caught(self):
        own = {node.name for node in trees()["errors"].body if isinstance(node, ast.ClassDef)}
        for name, tree in trees().items():
            for node in ast.walk(tree):
                if isinstance(node, ast.ExceptHandler):
                    self.assertIsInstance(node.type, ast.Name, f"L19 {name}:{node.lineno}")
                    self.assertIn(node.type.id, own | {"KeyError", "ZeroDivisionError"}, f"L19 {name}:{node.lineno}")

    def test_what_is_done_at_last_is_plain(self):
        for name, tree in trees().items():
            for node in ast.walk(tree):
                for row in getattr(node, "finalbody", []):
                    self.assertIsInstance(row, ast.Assign, f"L6 {name}:{row.lineno}")
                    self.assertIsInstance(row.value, (ast.Name, ast.Attribute), f"L6 {name}:{row.lineno}")
                    for target in row.targets:
                        self.assertIsInstance(target, (ast.Name, ast.Attribute), f"L6 {name}:{row.lineno}")

    def test_nothing_reads_a_method_off_a_class(self):
        classes = {node.name for tree in trees().values() for node in tree.body if isinstance(node, ast.ClassDef)}
        for name, tree in trees().items():
            for node in ast.walk(tree):
                if isinstance(node, ast.Attribute) and isinstance(node.value, ast.Name):
                    self.assertNotIn(node.value.id, classes, f"L18 {name}:{node.lineno}")
