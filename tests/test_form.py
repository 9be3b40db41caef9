"""What can be seen of the form of the package: its files, names and interface."""

import ast
import builtins
import unittest
from pathlib import Path

PACKAGE = Path(__file__).resolve().parent.parent / "unendtold"

INTERFACE = {
    "errors": ["UnendtoldError", "TooManyValues", "TooManyLines", "InvalidWord", "UnknownName",
               "NotFitting"],
    "words": ["letter_at", "spans", "side_by_side", "is_same"],
    "readers": ["fault", "value", "pair_of", "accepts"],
    "values": ["tidy", "denied", "joint", "hidden", "least", "first_words", "some_word", "parting"],
    "acceptors": ["is_acceptor", "reader_of", "takes", "acceptor_of"],
    "formulas": ["is_formula", "depth_of", "formula_reader", "decide"],
    "back": ["formula_for"],
    "conditions": ["is_condition", "says", "condition_reader"],
    "runs": ["is_machine", "is_run", "is_sentence", "decide", "answer"],
    "safety": ["closure", "live_part", "is_safety", "is_liveness", "settled"],
    "notation": ["format_lines", "parse_condition", "parse_formula"],
    "bench": ["Workbench"],
}

METHODS_OF_WORKBENCH = ["__init__", "machine", "change", "turn_step", "undo", "redo", "keep", "drop",
                        "names", "holds", "shown", "made"]

BUILTINS = set("""len range enumerate zip min max sum abs sorted reversed int str bool list tuple
dict set isinstance ord repr any all divmod Exception ValueError TypeError KeyError IndexError
LookupError ZeroDivisionError RuntimeError NotImplementedError""".split())

LIBRARY = {
    "heapq": {"heappush", "heappop", "heapify", "heapreplace", "heappushpop"},
    "math": {"gcd", "lcm", "isqrt", "comb", "perm", "factorial"},
    "itertools": {"product", "combinations", "permutations", "chain", "accumulate", "pairwise",
                  "islice", "zip_longest"},
    "collections": {"defaultdict"},
}

METHODS = set("""append clear copy count endswith extend find get index insert isalnum isalpha
isdigit islower isspace isupper items join keys ljust lower lstrip partition pop remove replace
reverse rfind rjust rpartition rsplit rstrip setdefault split splitlines startswith strip update
upper values zfill bit_length add discard""".split())

BARRED = set("""register mro elements open input law version_info with_traceback add_note
attrgetter breakpoint compile copyright credits delattr dir eval exec exit gc globals help id
importlib license locals methodcaller os quit setattr type vars sys""".split())

NOT_ALLOWED = (ast.Global, ast.AsyncFunctionDef, ast.AsyncFor, ast.AsyncWith, ast.Await, ast.Div,
               ast.Import)


def files():
    return sorted(PACKAGE.rglob("*.py"))


def trees():
    return [(path, ast.parse(path.read_text())) for path in files()]


def docstrings(tree):
    found = []
    for node in ast.walk(tree):
        if isinstance(node, (ast.Module, ast.ClassDef, ast.FunctionDef)):
            first = node.body[0] if node.body else None
            if isinstance(first, ast.Expr) and isinstance(first.value, ast.Constant):
                found.append(first.value)
    return found


def bound_names(tree):
    for node in ast.walk(tree):
        if isinstance(node, (ast.FunctionDef, ast.ClassDef)):
            yield node.name
        elif isinstance(node, ast.arg):
            yield node.arg
        elif isinstance(node, ast.Name) and not isinstance(node.ctx, ast.Load):
            yield node.id


class Files(unittest.TestCase):
    def test_nothing_else_in_the_folder(self):
        for path in PACKAGE.rglob("*"):
            if "__pycache__" not in path.parts and not path.is_dir():
                self.assertRegex(path.name, r"^[a-z0-9_]+\.py$")

    def test_characters_and_sizes(self):
        for path in files():
            lines = path.read_bytes().decode("ascii").split("\n")
            self.assertLessEqual(len(lines) - 1, 399, path)
            for line in lines:
                self.assertTrue(all(" " <= c <= "~" for c in line), (path, line))
                self.assertLessEqual(len(line), 120, (path, line))

    def test_functions_are_short(self):
        for path, tree in trees():
            for node in ast.walk(tree):
                if isinstance(node, ast.FunctionDef):
                    self.assertLessEqual(node.end_lineno - node.lineno + 1, 40, (path, node.name))


class Rows(unittest.TestCase):
    def test_imports(self):
        for path, tree in trees():
            for node in ast.walk(tree):
                if isinstance(node, ast.ImportFrom):
                    self.assertIn(node, tree.body, path)
                    self.assertEqual(node.level, 0, path)
                    for name in node.names:
                        self.assertNotEqual(name.name, "*", path)
                        if node.module in LIBRARY:
                            self.assertIn(name.name, LIBRARY[node.module], path)
                            self.assertIsNone(name.asname, path)
                        else:
                            self.assertTrue(node.module.startswith("unendtold."), path)

    def test_module_level(self):
        for path, tree in trees():
            plain = docstrings(tree)
            for node in tree.body:
                if isinstance(node, ast.Expr):
                    self.assertIn(node.value, plain, path)
                else:
                    self.assertIsInstance(node, (ast.ImportFrom, ast.FunctionDef, ast.ClassDef,
                                                 ast.Assign), path)

    def test_statements_and_values(self):
        for path, tree in trees():
            plain = docstrings(tree)
            for node in ast.walk(tree):
                self.assertNotIsInstance(node, NOT_ALLOWED, path)
                if isinstance(node, (ast.FunctionDef, ast.ClassDef)):
                    self.assertEqual(node.decorator_list, [], (path, node.name))
                if isinstance(node, ast.Constant):
                    self.assertNotIsInstance(node.value, (float, complex), path)
                    if isinstance(node.value, str) and node not in plain:
                        self.assertNotIn("%", node.value, path)

    def test_names(self):
        known = set(dir(builtins))
        for path, tree in trees():
            for name in bound_names(tree):
                self.assertNotIn(name, BARRED, path)
                self.assertTrue(name == "_" or name not in known, (path, name))
            for node in ast.walk(tree):
                if isinstance(node, ast.Name) and node.id in known:
                    self.assertIn(node.id, BUILTINS, (path, node.lineno))

    def test_methods_that_are_called(self):
        own = {node.name for _, tree in trees() for node in ast.walk(tree)
               if isinstance(node, ast.FunctionDef)}
        for path, tree in trees():
            for node in ast.walk(tree):
                if isinstance(node, ast.Call) and isinstance(node.func, ast.Attribute):
                    self.assertIn(node.func.attr, METHODS | own, (path, node.lineno))


class Interface(unittest.TestCase):
    def test_defined_where_the_document_lists_it(self):
        for module, names in INTERFACE.items():
            tree = ast.parse((PACKAGE / (module + ".py")).read_text())
            defined = [node.name for node in tree.body
                       if isinstance(node, (ast.FunctionDef, ast.ClassDef))]
            for name in names:
                self.assertIn(name, defined)

    def test_methods_stand_in_the_class_itself(self):
        tree = ast.parse((PACKAGE / "bench.py").read_text())
        found = [node for node in tree.body if isinstance(node, ast.ClassDef)
                 and node.name == "Workbench"][0]
        defined = [node.name for node in found.body if isinstance(node, ast.FunctionDef)]
        for name in METHODS_OF_WORKBENCH:
            self.assertIn(name, defined)


if __name__ == "__main__":
    unittest.main()
