"""Some rules of the language that a look at the files can judge; the rule's number stands at each."""

import ast
import unittest
from pathlib import Path

PACKAGE = Path(__file__).resolve().parent.parent / "leastspare"

# L8 and L27, without `chr`, `bytes`, and what stands in `__main__.py` alone.
BUILTINS = """len range enumerate zip map min max sum abs sorted reversed int str bool list tuple dict set
frozenset isinstance ord repr any all divmod pow getattr hasattr setattr type iter next super
Exception ValueError TypeError KeyError IndexError LookupError ZeroDivisionError ArithmeticError
OverflowError RuntimeError NotImplementedError AttributeError StopIteration NotImplemented""".split()

# L6 and L7; `global` is allowed in few places, but no state is needed at module level.
BARRED = (ast.AsyncFunctionDef, ast.AsyncFor, ast.AsyncWith, ast.Await, ast.Global, ast.Import, ast.Div, ast.MatMult)


def sources():
    return {path: path.read_text(encoding="utf-8") for path in sorted(PACKAGE.glob("*.py"))}


def nodes():
    for path, text in sources().items():
        for node in ast.walk(ast.parse(text)):
            yield path.name, node


def bound_names():
    """All names that the package binds, with those of its attributes."""
    found = set()
    for _, node in nodes():
        if isinstance(node, (ast.FunctionDef, ast.ClassDef)):
            found.add(node.name)
        if isinstance(node, ast.arg):
            found.add(node.arg)
        if isinstance(node, ast.Name) and isinstance(node.ctx, ast.Store):
            found.add(node.id)
        if isinstance(node, ast.ImportFrom):
            found.update(alias.name for alias in node.names)
    return found


class Form(unittest.TestCase):
    def test_the_folder_has_nothing_but_python_files(self):
        # L1; Python's own cache is not in the checkout.
        names = [path.name for path in PACKAGE.iterdir() if path.name != "__pycache__"]
        self.assertEqual(sorted(names), [path.name for path in sources()])

    def test_sizes(self):
        # L10
        for path, text in sources().items():
            rows = text.splitlines()
            self.assertLessEqual(len(rows), 399, path.name)
            self.assertLessEqual(max(len(row) for row in rows), 120, path.name)
        for name, node in nodes():
            if isinstance(node, ast.FunctionDef):
                self.assertLessEqual(node.end_lineno - node.lineno + 1, 40, (name, node.name))

    def test_characters(self):
        # L14, L27
        for path, text in sources().items():
            self.assertLessEqual(set(text), {chr(sign) for sign in range(32, 127)} | {"\n"}, path.name)
        for name, node in nodes():
            if isinstance(node, ast.Constant):
                self.assertNotIsInstance(node.value, (float, complex), name)
            if isinstance(node, ast.Constant) and isinstance(node.value, str):
                self.assertNotIn("%", node.value, name)

    def test_imports(self):
        # L2, L16: from the file that defines the name, and no two files from each other.
        reached = {path.stem: set() for path in sources()}
        for name, node in nodes():
            if isinstance(node, ast.ImportFrom):
                self.assertEqual((node.level, node.module.partition(".")[0]), (0, "leastspare"), name)
                stem = node.module.partition(".")[2]
                self.assertTrue(all(alias.asname is None for alias in node.names), name)
                top = ast.parse((PACKAGE / f"{stem}.py").read_text(encoding="utf-8")).body
                made = [row.name for row in top if isinstance(row, (ast.FunctionDef, ast.ClassDef))]
                made += [row.targets[0].id for row in top if isinstance(row, ast.Assign)]
                self.assertLessEqual({alias.name for alias in node.names}, set(made), name)
                reached[name[:-3]].add(stem)
        while reached:
            free = [stem for stem in reached if not reached[stem] & set(reached)]
            self.assertTrue(free, f"these import from each other: {sorted(reached)}")
            for stem in free:
                del reached[stem]

    def test_statements(self):
        for name, node in nodes():
            self.assertNotIsInstance(node, BARRED, (name, getattr(node, "lineno", 0)))
            # L4, L5: no decorator stands over a class, nor, here, over a function.
            if isinstance(node, (ast.FunctionDef, ast.ClassDef)):
                self.assertEqual(node.decorator_list, [], (name, node.name))

    def test_exponents(self):
        # L27: no variable exponent.
        for name, node in nodes():
            if isinstance(node, ast.BinOp) and isinstance(node.op, ast.Pow):
                self.assertIsInstance(node.right, ast.Constant, name)

    def test_builtins(self):
        # L8, and L15: none of their names means anything else.
        bound = bound_names()
        every = vars(__builtins__) if not isinstance(__builtins__, dict) else __builtins__
        self.assertEqual(sorted(bound & set(every)), [])
        for name, node in nodes():
            if isinstance(node, ast.Name) and node.id not in bound:
                self.assertIn(node.id, BUILTINS, (name, node.lineno))
