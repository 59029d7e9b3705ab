"""Tests that the package keeps to rules of the language that can be seen in its files.

They look for what the language certainly bars; they do not show that all its rules are kept.
"""

import ast
import builtins
import os
import unittest

ROOT = os.path.dirname(os.path.dirname(os.path.abspath(__file__)))
FOLDER = os.path.join(ROOT, "surelabels")

BUILTINS = set(
    "len range enumerate zip min max sum abs sorted reversed int str bool bytes list tuple dict set frozenset "
    "isinstance ord repr any all divmod map iter next Exception ValueError TypeError KeyError IndexError LookupError "
    "ZeroDivisionError ArithmeticError OverflowError RuntimeError NotImplementedError AttributeError StopIteration "
    "NotImplemented print property staticmethod classmethod super".split())

METHODS = set(
    "append clear copy count endswith extend find get index insert isalnum isalpha isdigit islower isspace isupper "
    "items join keys ljust lower lstrip partition pop remove replace reverse rfind rjust rpartition rsplit rstrip "
    "setdefault split splitlines startswith strip update upper values zfill bit_length add discard encode decode hex "
    "translate title capitalize swapcase casefold center expandtabs removeprefix removesuffix rindex isascii isdecimal "
    "isnumeric istitle isidentifier isprintable setter".split())

BARRED_NAMES = set(
    "register mro elements open input law version_info with_traceback add_note attrgetter breakpoint compile copyright "
    "credits delattr dir eval exec exit gc getattr globals hasattr help id importlib license locals methodcaller os "
    "quit setattr type vars sys".split())

BARRED_WORDS = set("typing typing_extensions enum Enum Generic Protocol ABC namedtuple NamedTuple TypedDict".split())

BARRED_NODES = (ast.Global, ast.AsyncFunctionDef, ast.AsyncFor, ast.AsyncWith, ast.Await, ast.Div, ast.Import)

LIBRARY = {"heapq": "heappush heappop heapify heapreplace heappushpop", "math": "gcd lcm isqrt comb perm factorial",
           "itertools": "product combinations permutations", "__future__": "annotations"}


def read(name):
    """Return the text of a file of the package."""
    with open(os.path.join(FOLDER, name), encoding="utf-8", newline="") as file:
        return file.read()


def names_bound(tree):
    """Return all names that a file binds anywhere, parameters included."""
    bound = {node.id for node in ast.walk(tree) if isinstance(node, ast.Name) and not isinstance(node.ctx, ast.Load)}
    bound |= {node.arg for node in ast.walk(tree) if isinstance(node, ast.arg)}
    return bound | {node.name for node in ast.walk(tree) if isinstance(node, (ast.FunctionDef, ast.ClassDef))}


class TestLanguage(unittest.TestCase):

    @classmethod
    def setUpClass(cls):
        cls.names = sorted(name for name in os.listdir(FOLDER) if name != "__pycache__")
        cls.trees = {name: ast.parse(read(name)) for name in cls.names}
        cls.own = {name: {node.name for node in tree.body if isinstance(node, (ast.FunctionDef, ast.ClassDef))}
                   | {node.targets[0].id for node in tree.body if isinstance(node, ast.Assign)}
                   for name, tree in cls.trees.items()}

    def nodes(self, *kinds):
        """List the pairs of a file's name and a node of these kinds."""
        return [(name, node) for name, tree in self.trees.items() for node in ast.walk(tree) if isinstance(node, kinds)]

    def test_only_small_files_of_plain_characters(self):
        self.assertIn("__init__.py", self.names)
        for name in self.names:
            self.assertRegex(name, r"\A[a-z0-9_]+\.py\Z")
            lines = read(name).split("\n")
            self.assertLessEqual(len(lines), 400, name)
            for number, line in enumerate(lines, 1):
                self.assertLessEqual(len(line), 120, f"{name}:{number}")
                self.assertRegex(line, r"\A[ -~]*\Z", f"{name}:{number}")

    def test_small_functions(self):
        for name, node in self.nodes(ast.FunctionDef):
            self.assertLessEqual(node.end_lineno - node.lineno + 1, 40, f"{name}: {node.name}")

    def test_no_barred_statement_or_operator(self):
        self.assertEqual([(name, ast.dump(node)) for name, node in self.nodes(*BARRED_NODES)], [])

    def test_imports(self):
        for name, node in self.nodes(ast.ImportFrom):
            wanted = {alias.name for alias in node.names}
            self.assertEqual(node.level, 0, name)
            if node.module in LIBRARY:
                self.assertLessEqual(wanted, set(LIBRARY[node.module].split()), name)
            else:
                self.assertRegex(node.module, r"\Asurelabels\.[a-z_]+\Z")
                self.assertLessEqual(wanted, self.own[node.module.split(".")[1] + ".py"], name)

    def test_no_files_that_import_from_each_other(self):
        needs = {name: set() for name in self.names}
        for name, node in self.nodes(ast.ImportFrom):
            if node.module.startswith("surelabels."):
                needs[name].add(node.module.split(".")[1] + ".py")
        while needs:
            free = [name for name in needs if not needs[name] & set(needs)]
            self.assertNotEqual(free, [], f"these import in a ring: {sorted(needs)}")
            needs = {name: needs[name] for name in needs if name not in free}

    def test_builtins(self):
        for name, node in self.nodes(ast.Name):
            if node.id != "_" and hasattr(builtins, node.id):
                self.assertIn(node.id, BUILTINS, f"{name}:{node.lineno}")
                self.assertIsInstance(node.ctx, ast.Load, f"{name}:{node.lineno}")

    def test_names(self):
        for name, tree in self.trees.items():
            for bound in names_bound(tree) - {"__init__", "__eq__"}:
                self.assertNotIn(bound, BARRED_NAMES | BARRED_WORDS, name)
                # The example tests make Python remember its last value under the name _.
                self.assertFalse(bound != "_" and hasattr(builtins, bound), f"{name}: {bound}")
                self.assertRegex(bound, r"\A_?[A-Za-z][A-Za-z0-9_]*\Z|\A_\Z", name)

    def test_names_of_classes_begin_with_a_letter(self):
        classes = self.nodes(ast.ClassDef)
        self.assertIn(("books.py", "Book"), [(name, node.name) for name, node in classes])
        for name, node in classes:
            self.assertRegex(node.name, r"\A[A-Za-z][A-Za-z0-9_]*\Z", f"{name}:{node.lineno}")

    def test_no_local_name_is_an_import_or_a_class(self):
        for name, tree in self.trees.items():
            taken = {alias.name for node in tree.body if isinstance(node, ast.ImportFrom) for alias in node.names}
            taken |= {node.name for node in tree.body if isinstance(node, ast.ClassDef)}
            local = {node.id for node in ast.walk(tree)
                     if isinstance(node, ast.Name) and isinstance(node.ctx, ast.Store)}
            local |= {node.arg for node in ast.walk(tree) if isinstance(node, ast.arg)}
            self.assertEqual(taken & local, set(), name)

    def test_called_methods(self):
        own = {node.name for _, node in self.nodes(ast.FunctionDef)}
        for name, node in self.nodes(ast.Call):
            if isinstance(node.func, ast.Attribute):
                self.assertIn(node.func.attr, METHODS | own, f"{name}:{node.lineno}")

    def test_strings_and_numbers(self):
        for name, node in self.nodes(ast.Constant):
            self.assertNotIsInstance(node.value, (float, complex), f"{name}:{node.lineno}")
            if isinstance(node.value, str):
                self.assertNotIn("%", node.value, f"{name}:{node.lineno}")

    def test_powers_have_literal_exponents(self):
        for name, node in self.nodes(ast.BinOp):
            if isinstance(node.op, ast.Pow):
                self.assertIsInstance(node.right, ast.Constant, f"{name}:{node.lineno}")

    def test_lists_where_classes_compare(self):
        for name, node in self.nodes(ast.Call):
            if isinstance(node.func, ast.Name) and node.func.id in ("any", "all", "min", "max", "sum", "sorted"):
                self.assertFalse(any(isinstance(part, ast.GeneratorExp) for part in node.args), f"{name}:{node.lineno}")
            if isinstance(node.func, ast.Attribute):
                self.assertNotEqual(node.func.attr, "sort", f"{name}:{node.lineno}")

    def test_decorators(self):
        for name, node in self.nodes(ast.FunctionDef):
            for part in node.decorator_list:
                self.assertIn(part.id, ("property", "staticmethod", "classmethod"), f"{name}:{node.lineno}")
