"""What can be seen from the outside of the files: where things stand, and a part of the rules for the code."""

import ast
import builtins
import unittest
from pathlib import Path

from delaynets import alike, blocks, catalog, certificates, checker, endings, errors, machines, nets, numbers, runs
from delaynets import shifts, signals, telling, workshops

FOLDER = Path(__file__).resolve().parent.parent / "delaynets"
LIBRARY = {
    "heapq": {"heappush", "heappop", "heapify", "heapreplace", "heappushpop"},
    "math": {"gcd", "lcm", "isqrt", "comb", "perm", "factorial"},
    "itertools": {"product", "combinations", "permutations"},
    "__future__": {"annotations"},
}
ALLOWED = set("""len range enumerate zip min max sum abs sorted reversed int str bool bytes list tuple dict set frozenset
    isinstance ord repr any all divmod map iter next super property staticmethod classmethod object float NotImplemented
    Exception ValueError TypeError KeyError IndexError LookupError ZeroDivisionError ArithmeticError OverflowError
    RuntimeError NotImplementedError AttributeError StopIteration""".split())
BARRED = {"register", "mro", "elements", "open", "input", "law", "version_info", "with_traceback", "add_note"}
PLACES = {
    numbers: "Number",
    signals: "Signal Name Sum Times Late Every Spread read_signal",
    nets: "Draft Net",
    catalog: "halves joined running_sum held thinned filled",
    runs: "run answers Player Trial tried",
    blocks: "block_tables",
    alike: "alike difference parted_classes alike_on",
    shifts: "keeps_time least_shift copy_of",
    machines: "Machine normal_machine kept_numbers",
    checker: "holds",
    endings: "ends length_of settles",
    telling: "told_back teller lost_input",
    certificates: "certify_alike certify_kept certify_machine certify_settles certify_ends certify_told",
    workshops: "Workshop",
}
METHODS = {
    numbers.Number: """__init__ read over __add__ __radd__ __sub__ __rsub__ __mul__ __rmul__ __neg__ __abs__ __pow__
        __eq__ __str__ __repr__""",
    **{kind: "__init__ WORD" for kind in (signals.Name, signals.Sum, signals.Times, signals.Late, signals.Every,
                                          signals.Spread)},
    nets.Draft: "__init__ __setitem__ __getitem__ __contains__ __len__ show made",
    nets.Net: "read rate definition __eq__ __str__ __repr__",
    runs.Player: "__init__ feed undo copy",
    runs.Trial: "__init__ __enter__ __exit__",
    machines.Machine: "__init__ run __eq__ __repr__",
    workshops.Workshop: "__init__ do do_all undo __getitem__ __setitem__ demands __len__ __contains__ __repr__",
}
PROPERTIES = {
    numbers.Number: "top bottom sign",
    nets.Draft: "inputs outputs",
    nets.Net: "inputs outputs names period kept",
    runs.Player: "net time",
    machines.Machine: "input_rates output_rates steps turn sizes",
    workshops.Workshop: "names history",
}


def trees():
    return [(path, ast.parse(path.read_text())) for path in sorted(FOLDER.rglob("*.py"))]


class PlacesTest(unittest.TestCase):
    def test_each_class_and_function_stands_in_its_file(self):
        for module, names in PLACES.items():
            for name in names.split():
                self.assertEqual(getattr(module, name).__module__, module.__name__)

    def test_each_error_stands_in_its_file(self):
        kinds = [kind for kind in vars(errors).values() if isinstance(kind, type)]
        for kind in kinds:
            self.assertEqual(kind.__module__, "delaynets.errors")

    def test_each_method_stands_in_its_class(self):
        for kind, names in METHODS.items():
            for name in names.split():
                self.assertIn(name, vars(kind), kind)
        for kind, names in PROPERTIES.items():
            for name in names.split():
                self.assertIsInstance(vars(kind)[name], property, kind)
        for kind in (numbers.Number, nets.Net):
            self.assertIsInstance(vars(kind)["read"], staticmethod)


class RulesTest(unittest.TestCase):
    def test_files(self):
        for path in FOLDER.rglob("*"):
            if "__pycache__" not in path.parts:
                self.assertEqual((path.is_file(), path.suffix), (True, ".py"))
        self.assertTrue((FOLDER / "__init__.py").is_file())

    def test_sizes_and_characters(self):
        for path, tree in trees():
            text = path.read_bytes().decode("ascii")
            self.assertTrue(all(sign == "\n" or " " <= sign <= "~" for sign in text), path)
            self.assertLessEqual(len(text.splitlines()), 399, path)
            self.assertLessEqual(max(map(len, text.splitlines())), 120, path)
            for node in ast.walk(tree):
                if isinstance(node, ast.FunctionDef):
                    self.assertLessEqual(node.end_lineno - node.lineno + 1, 40, f"{path} {node.name}")

    def test_imports(self):
        for path, tree in trees():
            for node in ast.walk(tree):
                self.assertNotIsInstance(node, ast.Import, path)
                if isinstance(node, ast.ImportFrom):
                    self.assertIn(node, tree.body, path)
                    self.assertEqual(node.level, 0, path)
                    if not node.module.startswith("delaynets."):
                        self.assertLessEqual({name.name for name in node.names}, LIBRARY[node.module], path)

    def test_statements(self):
        for path, tree in trees():
            for node in ast.walk(tree):
                self.assertNotIsInstance(node, (ast.Global, ast.AsyncFunctionDef, ast.Await, ast.Div), path)
                if isinstance(node, ast.Constant):
                    self.assertNotIsInstance(node.value, (float, complex), path)
                    self.assertFalse(isinstance(node.value, str) and "%" in node.value, path)

    def test_classes_and_comprehensions(self):
        for path, tree in trees():
            for node in ast.walk(tree):
                self.assertNotIsInstance(node, ast.GeneratorExp, f"{path} {getattr(node, 'lineno', 0)}")
                if isinstance(node, ast.FunctionDef) and node.name in ("__eq__", "__len__", "__str__", "__repr__"):
                    self.assertIsInstance(node.body[-1], ast.Return, path)
                    self.assertFalse(any(isinstance(inner, (ast.Assign, ast.AugAssign)) for inner in ast.walk(node)),
                                     f"{path} {node.lineno}")

    def test_names(self):
        for path, tree in trees():
            for node in ast.walk(tree):
                if isinstance(node, ast.Name):
                    self.assertFalse(node.id in vars(builtins) and node.id not in ALLOWED, f"{path} {node.id}")
                    if not isinstance(node.ctx, ast.Load):
                        self.assertNotIn(node.id, vars(builtins), path)
                for field in ("id", "attr", "name", "arg"):
                    self.assertNotIn(getattr(node, field, None), BARRED, path)
                if isinstance(node, ast.arg):
                    self.assertNotIn(node.arg, vars(builtins), path)


if __name__ == "__main__":
    unittest.main()
