"""What operators, properties, `__eq__`, `__repr__`, `__str__` and `__len__` come to: it changes and calls nothing.

Functions are told apart by their files, methods by their names alone, whatever object they are called of.
"""

import ast
import pathlib
import unittest

PACKAGE = pathlib.Path(__file__).resolve().parent.parent / "fourwalls"
# These double-underscore methods may change something.
FREE = ("__init__", "__iter__", "__call__", "__enter__", "__exit__", "__setitem__", "__iadd__")
CHANGING = ("append", "clear", "extend", "insert", "pop", "remove", "reverse", "setdefault", "update", "sort", "add",
            "discard")
CREATING = ("list", "dict", "sorted")


def read_package():
    return {path.stem: path.read_text() for path in PACKAGE.rglob("*.py")}


def is_property(node):
    return any(isinstance(one, ast.Name) and one.id == "property" for one in node.decorator_list)


def is_setter(node):
    return any(isinstance(one, ast.Attribute) and one.attr == "setter" for one in node.decorator_list)


def functions_in(tree):
    """Return the triples (class name or None, name, node) of the functions and methods of a file, without setters."""
    found = []
    for node in tree.body:
        if isinstance(node, ast.FunctionDef):
            found.append((None, node.name, node))
        elif isinstance(node, ast.ClassDef):
            methods = [one for one in node.body if isinstance(one, ast.FunctionDef) and not is_setter(one)]
            found += [(node.name, one.name, one) for one in methods]
    return found


class Graph:
    """The functions of a package, and what each one comes to."""

    def __init__(self, sources):
        self.trees = {name: ast.parse(text) for name, text in sources.items()}
        self.functions = {}
        self.methods = {}
        self.bases = {}
        self.imports = {}
        for file, tree in self.trees.items():
            for owner, name, node in functions_in(tree):
                self.functions[file, owner, name] = node
                if owner:
                    self.methods.setdefault(name, []).append((file, owner, name))
            for node in tree.body:
                if isinstance(node, ast.ClassDef):
                    self.bases[file, node.name] = [one.id for one in node.bases]
                elif isinstance(node, ast.ImportFrom):
                    for one in node.names:
                        self.imports[file, one.name] = node.module.rpartition(".")[2]

    def roots(self):
        """Return the operators, properties and the like."""
        found = []
        for key, node in self.functions.items():
            operator = key[1] and key[2].startswith("__") and key[2] not in FREE
            if operator or is_property(node):
                found.append(key)
        return found

    def constructor(self, file, name):
        """Return the list of the `__init__` that a class has or inherits; it is empty for none."""
        file = self.imports.get((file, name), file)
        if (file, name, "__init__") in self.functions:
            return [(file, name, "__init__")]
        return [key for base in self.bases.get((file, name), []) for key in self.constructor(file, base)]

    def called(self, key):
        """Return the functions and methods that a function may call."""
        file = key[0]
        found = []
        for node in ast.walk(self.functions[key]):
            if isinstance(node, ast.Call) and isinstance(node.func, ast.Name):
                name = node.func.id
                home = self.imports.get((file, name), file)
                if (home, None, name) in self.functions:
                    found.append((home, None, name))
                found += self.constructor(file, name)
            elif isinstance(node, ast.Call) and isinstance(node.func, ast.Attribute):
                found += self.methods.get(node.func.attr, [])
        return found

    def faults(self):
        """Return what is wrong with the functions that the roots come to, as tuples (function, line, what)."""
        waiting = self.roots()
        seen = set(waiting)
        found = []
        while waiting:
            key = waiting.pop()
            found += [(key, *fault) for fault in faults_in(self.functions[key])]
            new = set(self.called(key)) - seen
            seen |= new
            waiting += new
        return found


def own_names(node):
    """Return the parameters of a function, and its variables that hold nothing but what it creates as lists or dicts."""
    created = {}
    for one in ast.walk(node):
        if isinstance(one, ast.Assign):
            call = isinstance(one.value, ast.Call) and isinstance(one.value.func, ast.Name)
            fresh = isinstance(one.value, (ast.List, ast.ListComp, ast.Dict)) or call and one.value.func.id in CREATING
            for target in one.targets:
                if isinstance(target, ast.Name):
                    created[target.id] = fresh and created.get(target.id, True)
                for name in ast.walk(target):
                    if isinstance(name, ast.Name) and isinstance(name.ctx, ast.Store) and name is not target:
                        created[name.id] = False
        elif isinstance(one, (ast.For, ast.comprehension)):
            for name in ast.walk(one.target):
                if isinstance(name, ast.Name):
                    created[name.id] = False
    given = {one.arg for one in ast.walk(node) if isinstance(one, ast.arg)}
    return given, {name for name in created if created[name] and name not in given}


def faults_in(node):
    """Return what a function changes or calls against the rule, as pairs (line, what)."""
    given, created = own_names(node)
    stored = {one.id for one in ast.walk(node) if isinstance(one, ast.Name) and isinstance(one.ctx, ast.Store)}
    found = []
    for one in ast.walk(node):
        if isinstance(one, ast.AugAssign):
            found.append((one.lineno, "sign ="))
        elif isinstance(one, ast.Delete):
            found.append((one.lineno, "del"))
        elif isinstance(one, ast.Attribute) and isinstance(one.ctx, ast.Store) and node.name != "__init__":
            found.append((one.lineno, "attribute"))
        elif isinstance(one, ast.Subscript) and isinstance(one.ctx, ast.Store):
            if not isinstance(one.value, ast.Name) or one.value.id not in created:
                found.append((one.lineno, "item"))
        elif isinstance(one, ast.Call):
            found += [(one.lineno, what) for what in call_faults(one.func, given | stored, created)]
    return found


def call_faults(called, local, created):
    """Return the list of what is wrong with a call of something, where these are the local names."""
    if isinstance(called, ast.Name):
        return ["calls a variable"] if called.id in local else []
    if not isinstance(called, ast.Attribute):
        return ["calls a value"]
    if called.attr not in CHANGING:
        return []
    own = isinstance(called.value, ast.Name) and called.value.id in created
    return [] if own and called.attr != "sort" else [called.attr]


BAD = '''
class Box:
    def __init__(self, rows):
        self.rows = rows
    def __and__(self, other):
        return Box(both(self, other))
    def row(self, at):
        return self.rows[at]

def both(one, other):
    rows = []
    rows.append(one.row(0) + other.row(0))
    return rows
'''
HARMLESS = {
    "shelf": "class Shelf:\n    def line(self):\n        self.held = 1\n",
    "more": "def row(rows):\n    rows.append(1)\n",
}
HARMFUL = [
    "class Shelf:\n    def row(self):\n        self.held = 1\n",
    "class Shelf:\n    def row(self):\n        return self.rows.pop()\n",
    "class Shelf:\n    def row(self, at):\n        return at()\n",
    "class Shelf:\n    def row(self):\n        return self.told[0](1)\n",
    "from box.more import used\nclass Shelf:\n    def row(self):\n        return used(1)\n",
    "class Shelf:\n    def row(self):\n        return self.rest()\nclass Other:\n    def rest(self):\n        self.n += 1\n",
    "class Shelf:\n    def row(self):\n        used = {k: True for k in 'ab'}\n        used['c'] = True\n        return used\n",
    "class Shelf:\n    @property\n    def many(self):\n        return self.held.sort()\n",
    "class Shelf:\n    def __repr__(self):\n        self.n = 1\n        return ''\n",
]


class Operators(unittest.TestCase):
    def test_they_change_and_call_nothing_through_what_they_call_neither(self):
        graph = Graph(read_package())
        self.assertGreater(len(graph.roots()), 25)
        self.assertEqual(graph.faults(), [])

    def test_faults_are_found_by_the_names_of_methods(self):
        self.assertEqual(Graph({"box": BAD, **HARMLESS}).faults(), [])
        more = "def used(items):\n    kept = {}\n    items.clear()\n    return kept\n"
        for text in HARMFUL:
            self.assertNotEqual(Graph({"box": BAD, "shelf": text, "more": more}).faults(), [], text)

    def test_machines_joined_answer_as_their_own_methods_do(self):
        graph = Graph(read_package())
        for name in ("__and__", "__or__", "__invert__"):
            called = graph.called(("machines", "Machine", name))
            self.assertTrue(all(owner is None or method == "__init__" for _, owner, method in called), name)


if __name__ == "__main__":
    unittest.main()
