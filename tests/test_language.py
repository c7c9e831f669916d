"""What the files of the package use and do not use."""

import ast
import pathlib
import unittest

PACKAGE = pathlib.Path(__file__).resolve().parent.parent / "fourwalls"
FILES = sorted(PACKAGE.rglob("*.py"))
LIBRARY = {
    "heapq": {"heappush", "heappop", "heapify", "heapreplace", "heappushpop"},
    "math": {"gcd", "lcm", "isqrt", "comb", "perm", "factorial"},
    "itertools": {"product", "combinations", "permutations"},
}
BUILTINS = set(
    "len range enumerate zip min max sum abs sorted reversed int str bool bytes list tuple dict set frozenset isinstance "
    "ord repr any all divmod iter next map Exception ValueError TypeError KeyError IndexError LookupError "
    "ZeroDivisionError ArithmeticError OverflowError RuntimeError NotImplementedError AttributeError StopIteration "
    "NotImplemented super property staticmethod classmethod".split()
)
FORBIDDEN = (ast.AsyncFunctionDef, ast.AsyncFor, ast.AsyncWith, ast.Await, ast.Global, ast.Import, ast.Div)
WORDS = ("_wall", "dataclass", "typing", "namedtuple")


def trees():
    return [(path, ast.parse(path.read_text())) for path in FILES]


def bound_names(tree):
    """Return the names that a file binds: parameters, targets, functions, classes and imports."""
    found = []
    for node in ast.walk(tree):
        if isinstance(node, ast.Name) and not isinstance(node.ctx, ast.Load):
            found.append(node.id)
        elif isinstance(node, ast.arg):
            found.append(node.arg)
        elif isinstance(node, (ast.FunctionDef, ast.ClassDef)):
            found.append(node.name)
        elif isinstance(node, ast.alias):
            found.append(node.name)
    return found


class Language(unittest.TestCase):
    def test_the_folder_holds_plain_files_alone(self):
        held = [path for path in PACKAGE.rglob("*") if "__pycache__" not in path.parts]
        self.assertEqual(sorted(held), FILES)

    def test_imports_are_of_the_package(self):
        for path, tree in trees():
            for node in ast.walk(tree):
                if isinstance(node, ast.ImportFrom):
                    names = {one.name for one in node.names}
                    own = node.module.startswith("fourwalls.") and node.level == 0
                    self.assertTrue(own or names <= LIBRARY.get(node.module, set()), (path.name, node.lineno))

    def test_sizes_and_characters(self):
        for path, tree in trees():
            text = path.read_text()
            self.assertLess(len(text.splitlines()), 400, path.name)
            self.assertTrue(all(" " <= letter <= "~" or letter == "\n" for letter in text), path.name)
            for word in WORDS:
                self.assertNotIn(word, text, path.name)
            for at, line in enumerate(text.splitlines()):
                self.assertLessEqual(len(line), 120, (path.name, at + 1))
            for node in ast.walk(tree):
                if isinstance(node, ast.FunctionDef):
                    self.assertLess(node.end_lineno - node.lineno, 40, (path.name, node.name))

    def test_statements_and_signs(self):
        for path, tree in trees():
            for node in ast.walk(tree):
                self.assertFalse(isinstance(node, FORBIDDEN), (path.name, getattr(node, "lineno", 0)))
                if isinstance(node, ast.Constant):
                    self.assertNotIsInstance(node.value, (float, complex, bytes), (path.name, node.lineno))
                    self.assertNotIn("%", str(node.value), (path.name, node.lineno))
                if isinstance(node, ast.Compare):
                    for sign, other in zip(node.ops, node.comparators):
                        if isinstance(sign, (ast.Is, ast.IsNot)):
                            self.assertIsInstance(other, ast.Constant, (path.name, node.lineno))

    def test_builtins_are_those_of_the_language(self):
        builtins = set(dir(__builtins__) if not isinstance(__builtins__, dict) else __builtins__)
        # Where examples were run, Python keeps the last value that was shown as the builtin `_`.
        builtins.discard("_")
        for path, tree in trees():
            bound = bound_names(tree)
            methods = {node.name for one in ast.walk(tree) if isinstance(one, ast.ClassDef)
                       for node in one.body if isinstance(node, ast.FunctionDef)}
            self.assertEqual((set(bound) - methods) & builtins, set(), path.name)
            used = {node.id for node in ast.walk(tree) if isinstance(node, ast.Name)}
            self.assertEqual((used & builtins) - BUILTINS, set(), path.name)

    def test_imports_and_classes_are_bound_once(self):
        for path, tree in trees():
            bound = bound_names(tree)
            for node in tree.body:
                names = [one.name for one in node.names] if isinstance(node, ast.ImportFrom) else []
                for name in names + ([node.name] if isinstance(node, ast.ClassDef) else []):
                    self.assertEqual(bound.count(name), 1, (path.name, name))

    def test_no_generator_expressions(self):
        for path, tree in trees():
            for node in ast.walk(tree):
                self.assertNotIsInstance(node, (ast.GeneratorExp, ast.Match, ast.With), path.name)

    def test_tries_catch_own_errors_alone_and_end_with_plain_assignments(self):
        errors = [tree for path, tree in trees() if path.stem == "errors"]
        own = {node.name for node in errors[0].body if isinstance(node, ast.ClassDef)}
        for path, tree in trees():
            for node in ast.walk(tree):
                if isinstance(node, ast.ExceptHandler):
                    caught = {one.id for one in ast.walk(node.type) if isinstance(one, ast.Name)}
                    self.assertTrue(caught and caught <= own, (path.name, node.lineno))
                if isinstance(node, ast.Try):
                    for one in node.finalbody:
                        self.assertIsInstance(one, ast.Assign, (path.name, one.lineno))
                        self.assertIsInstance(one.value, ast.Constant, (path.name, one.lineno))

    def test_methods_and_attributes_have_unlike_names(self):
        methods = set()
        attributes = set()
        for _, tree in trees():
            for node in ast.walk(tree):
                if isinstance(node, ast.ClassDef):
                    plain = [one for one in node.body if isinstance(one, ast.FunctionDef)]
                    methods |= {one.name for one in plain if not any(
                        isinstance(mark, (ast.Attribute, ast.Name)) for mark in one.decorator_list)}
                elif isinstance(node, ast.Attribute) and isinstance(node.ctx, ast.Store):
                    attributes.add(node.attr)
        self.assertEqual(methods & attributes, set())

    def test_the_names_of_generators_are_their_own(self):
        functions = [node for _, tree in trees() for node in ast.walk(tree) if isinstance(node, ast.FunctionDef)]
        for node in functions:
            if any(isinstance(one, (ast.Yield, ast.YieldFrom)) for one in ast.walk(node)):
                self.assertEqual([one.name for one in functions].count(node.name), 1, node.name)

    def test_not_implemented_is_returned_alone(self):
        for path, tree in trees():
            returned = [node.value for node in ast.walk(tree) if isinstance(node, ast.Return)]
            for node in ast.walk(tree):
                if isinstance(node, ast.Name) and node.id == "NotImplemented":
                    self.assertIn(node, returned, (path.name, node.lineno))

    def test_operators_change_nothing_in_place(self):
        operators = {"add", "sub", "mul", "rmul", "neg", "and", "or", "invert", "contains", "getitem", "eq", "bool",
                     "repr", "len"}
        for path, tree in trees():
            for node in ast.walk(tree):
                if isinstance(node, ast.FunctionDef) and node.name[2:-2] in operators and node.name[:2] == "__":
                    for one in ast.walk(node):
                        self.assertNotIsInstance(one, (ast.AugAssign, ast.Lambda), (path.name, node.name))
                        if isinstance(one, ast.Attribute):
                            self.assertIsInstance(one.ctx, ast.Load, (path.name, node.name))

    def test_module_level_holds_no_code(self):
        for path, tree in trees():
            for node in tree.body:
                docstring = isinstance(node, ast.Expr) and isinstance(node.value, ast.Constant)
                plain = isinstance(node, (ast.ImportFrom, ast.FunctionDef, ast.ClassDef, ast.Assign))
                self.assertTrue(docstring or plain, (path.name, node.lineno))

    def test_every_function_tells_what_it_does(self):
        for path, tree in trees():
            self.assertTrue(ast.get_docstring(tree), path.name)
            for node in ast.walk(tree):
                if isinstance(node, ast.ClassDef) or isinstance(node, ast.FunctionDef) and node.name[:2] != "__":
                    self.assertTrue(ast.get_docstring(node), (path.name, node.name))


if __name__ == "__main__":
    unittest.main()
