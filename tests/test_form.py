"""Some rules of the language that a look at the files can judge; the rule's number stands at each."""

import ast
import re
import unittest
from pathlib import Path

PACKAGE = Path(__file__).resolve().parent.parent / "leastspare"

# L8 and L27, without `chr`, `bytes`, and what stands in `__main__.py` alone.
BUILTINS = """len range enumerate zip map min max sum abs sorted reversed int str bool list tuple dict set
frozenset isinstance ord repr any all divmod pow getattr hasattr setattr type iter next super
Exception ValueError TypeError KeyError IndexError LookupError ZeroDivisionError ArithmeticError
OverflowError RuntimeError NotImplementedError AttributeError StopIteration NotImplemented""".split()

# L6 and L7. Some of these are allowed in few places, but none is needed here; so no rule of theirs is judged.
BARRED = (
    ast.AsyncFunctionDef, ast.AsyncFor, ast.AsyncWith, ast.Await, ast.Global, ast.Import, ast.Div, ast.MatMult,
    ast.With, ast.Yield, ast.YieldFrom, ast.GeneratorExp, ast.Lambda, ast.Match, ast.NamedExpr, ast.Starred,
    ast.AnnAssign, ast.Nonlocal, ast.Delete,
)

# L2: what is taken from the library.
LIBRARY = {"math": {"gcd", "lcm", "isqrt", "comb"}, "itertools": {"product", "combinations", "permutations"},
           "heapq": {"heapify", "heappop", "heappush"}}

# L25, without those of bytes.
METHODS = """append clear copy count endswith extend find get index insert isalnum isalpha isdigit islower isspace
isupper items join keys ljust lower lstrip partition pop remove replace reverse rfind rjust rpartition rsplit rstrip
setdefault split splitlines startswith strip update upper values zfill bit_length add discard""".split()

# L17, the words that stand in no file but in comments and docstrings.
WORDS = """typing typing_extensions enum Enum IntEnum StrEnum Flag IntFlag Generic Protocol ABC ABCMeta namedtuple
NamedTuple TypedDict TYPE_CHECKING abstractmethod dataclass overload contextmanager""".split()


def sources():
    return {path: path.read_text(encoding="utf-8") for path in sorted(PACKAGE.glob("*.py"))}


def trees():
    return {path.name: ast.parse(text) for path, text in sources().items()}


def nodes():
    for name, tree in trees().items():
        for node in ast.walk(tree):
            yield name, node


def names_bound_in(tree, with_top):
    """All names that a tree binds in its functions, and, if these are asked for, those at its top."""
    found = set()
    for node in ast.walk(tree):
        if isinstance(node, ast.arg):
            found.add(node.arg)
        if isinstance(node, ast.Name) and isinstance(node.ctx, ast.Store):
            found.add(node.id)
        if with_top and isinstance(node, (ast.FunctionDef, ast.ClassDef)):
            found.add(node.name)
        if with_top and isinstance(node, ast.ImportFrom):
            found.update(alias.name for alias in node.names)
    return found


def bound_names():
    return set().union(*[names_bound_in(tree, True) for tree in trees().values()])


def is_call_of(node, *names):
    return isinstance(node, ast.Call) and isinstance(node.func, ast.Name) and node.func.id in names


class Form(unittest.TestCase):
    def test_the_folder_has_nothing_but_python_files(self):
        # L1; Python's own cache is not in the checkout.
        names = [path.name for path in PACKAGE.iterdir() if path.name != "__pycache__"]
        self.assertEqual(sorted(names), [path.name for path in sources()])

    def test_sizes(self):
        # L10
        for path, text in sources().items():
            rows = text.splitlines()
            self.assertLessEqual(len(rows), 399, path.name)
            self.assertLessEqual(max(len(row) for row in rows), 120, path.name)
        for name, node in nodes():
            if isinstance(node, ast.FunctionDef):
                self.assertLessEqual(node.end_lineno - node.lineno + 1, 40, (name, node.name))

    def test_characters(self):
        # L14, L27
        for path, text in sources().items():
            self.assertLessEqual(set(text), {chr(sign) for sign in range(32, 127)} | {"\n"}, path.name)
        for name, node in nodes():
            if isinstance(node, ast.Constant):
                self.assertNotIsInstance(node.value, (float, complex), name)
            if isinstance(node, ast.Constant) and isinstance(node.value, str):
                self.assertNotIn("%", node.value, name)

    def test_words(self):
        # L17
        for path, text in sources().items():
            self.assertEqual(sorted(set(WORDS) & set(re.findall(r"\w+", text))), [], path.name)

    def test_imports(self):
        # L2, L16: from the file that defines the name, and no two files from each other.
        reached = {path.stem: set() for path in sources()}
        for name, node in nodes():
            if isinstance(node, ast.ImportFrom) and node.module in LIBRARY:
                self.assertLessEqual({alias.name for alias in node.names}, LIBRARY[node.module], name)
                self.assertTrue(all(alias.asname is None for alias in node.names), name)
            elif isinstance(node, ast.ImportFrom):
                self.assertEqual((node.level, node.module.partition(".")[0]), (0, "leastspare"), name)
                stem = node.module.partition(".")[2]
                self.assertTrue(all(alias.asname is None for alias in node.names), name)
                top = ast.parse((PACKAGE / f"{stem}.py").read_text(encoding="utf-8")).body
                made = [row.name for row in top if isinstance(row, (ast.FunctionDef, ast.ClassDef))]
                made += [row.targets[0].id for row in top if isinstance(row, ast.Assign)]
                self.assertLessEqual({alias.name for alias in node.names}, set(made), name)
                reached[name[:-3]].add(stem)
        while reached:
            free = [stem for stem in reached if not reached[stem] & set(reached)]
            self.assertTrue(free, f"these import from each other: {sorted(reached)}")
            for stem in free:
                del reached[stem]

    def test_all_that_is_imported_is_used(self):
        for name, tree in trees().items():
            used = {node.id for node in ast.walk(tree) if isinstance(node, ast.Name)}
            for row in tree.body:
                if isinstance(row, ast.ImportFrom):
                    self.assertLessEqual({alias.name for alias in row.names}, used, name)

    def test_the_top_of_a_file(self):
        # L3: a docstring, imports, functions, classes, and names that are assigned a plain value once.
        for name, tree in trees().items():
            for row in tree.body[1:]:
                self.assertIsInstance(row, (ast.ImportFrom, ast.FunctionDef, ast.ClassDef, ast.Assign), name)
                if isinstance(row, ast.Assign):
                    self.assertEqual(len(row.targets), 1, name)
                    ast.literal_eval(row.value)
            self.assertIsInstance(tree.body[0], ast.Expr, name)

    def test_statements(self):
        for name, node in nodes():
            self.assertNotIsInstance(node, BARRED, (name, getattr(node, "lineno", 0)))
            # L4, L5: no decorator stands over a class, nor, here, over a function.
            if isinstance(node, (ast.FunctionDef, ast.ClassDef)):
                self.assertEqual(node.decorator_list, [], (name, node.name))

    def test_what_is_caught(self):
        # L19: an own error, by its name, and nothing more stands in such a statement.
        own = {row.name for row in trees()["errors.py"].body if isinstance(row, ast.ClassDef)}
        for name, node in nodes():
            if isinstance(node, ast.Try):
                self.assertEqual((len(node.body), node.orelse, node.finalbody), (1, [], []), name)
                self.assertLessEqual({handler.type.id for handler in node.handlers}, own, name)

    def test_what_is_raised(self):
        # L19: an own error, made on the spot.
        own = {row.name for row in trees()["errors.py"].body if isinstance(row, ast.ClassDef)}
        for name, node in nodes():
            if isinstance(node, ast.Raise):
                self.assertTrue(is_call_of(node.exc, *own), (name, node.lineno))
                self.assertIsNone(node.cause, name)

    def test_exponents(self):
        # L27: no variable exponent.
        for name, node in nodes():
            if isinstance(node, ast.BinOp) and isinstance(node.op, ast.Pow):
                self.assertIsInstance(node.right, ast.Constant, name)

    def test_builtins(self):
        # L8, and L15: none of their names means anything else.
        bound = bound_names()
        every = vars(__builtins__) if not isinstance(__builtins__, dict) else __builtins__
        self.assertEqual(sorted(bound & set(every)), [])
        for name, node in nodes():
            if isinstance(node, ast.Name) and node.id not in bound:
                self.assertIn(node.id, BUILTINS, (name, node.lineno))

    def test_names_of_classes_and_imports_mean_nothing_else(self):
        # L15; and, though no rule asks for it, the same for the functions of a file.
        for name, tree in trees().items():
            top = {row.name for row in tree.body if isinstance(row, (ast.FunctionDef, ast.ClassDef))}
            for row in tree.body:
                if isinstance(row, ast.ImportFrom):
                    top.update(alias.name for alias in row.names)
            self.assertEqual(sorted(top & names_bound_in(tree, False)), [], name)

    def test_methods_and_attributes(self):
        # L18: each that is read is an own one, or a method of L25; none is both in one class.
        own = set(METHODS)
        for _, node in nodes():
            if isinstance(node, ast.ClassDef):
                methods = {row.name for row in node.body if isinstance(row, ast.FunctionDef)}
                attributes = {part.attr for part in ast.walk(node)
                              if isinstance(part, ast.Attribute) and isinstance(part.ctx, ast.Store)}
                self.assertEqual(methods & attributes, set(), node.name)
                own |= methods | attributes
        for name, node in nodes():
            if isinstance(node, ast.Attribute):
                self.assertIn(node.attr, own, (name, node.lineno))

    def test_is(self):
        # L20, with None and True alone
        for name, node in nodes():
            if isinstance(node, ast.Compare):
                for sign, other in zip(node.ops, node.comparators):
                    if isinstance(sign, (ast.Is, ast.IsNot)):
                        self.assertIsInstance(other, ast.Constant, (name, node.lineno))

    def test_sets(self):
        # L24: each stands in sorted or len, or is given to a name of its own.
        for name, tree in trees().items():
            allowed = []
            for node in ast.walk(tree):
                if is_call_of(node, "sorted", "len"):
                    allowed += node.args
                if isinstance(node, ast.Assign) and isinstance(node.targets[0], ast.Name):
                    allowed.append(node.value)
            for node in ast.walk(tree):
                if isinstance(node, (ast.SetComp, ast.Set)) or is_call_of(node, "set", "frozenset"):
                    self.assertIn(node, allowed, (name, node.lineno))

    def test_iterated_at_once(self):
        # L23: zip, enumerate and reversed stand in a loop's head or in a call of these.
        for name, tree in trees().items():
            allowed = []
            for node in ast.walk(tree):
                if isinstance(node, (ast.For, ast.comprehension)):
                    allowed.append(node.iter)
                if is_call_of(node, "list", "tuple", "dict", "sorted", "sum", "enumerate", "zip"):
                    allowed += node.args[:1]
            for node in ast.walk(tree):
                if is_call_of(node, "zip", "enumerate", "reversed", "product", "combinations", "permutations"):
                    self.assertIn(node, allowed, (name, node.lineno))
