"""The interface: names, the files that define them, parameters and defaults, class values and properties."""

import importlib
import inspect
import unittest

from fourwalls.books import Book
from fourwalls.grids import Plan
from fourwalls.live import Floor
from fourwalls.machines import Machine
from fourwalls.ratios import Ratio
from fourwalls.strands import Strand
from fourwalls.weights import Weights
from samples import CROSS

FUNCTIONS = {
    "faces": ["is_faces(value)", "is_cutters(value)", "is_number(value, least, most)", "is_address(value)",
              "is_string(value, faces)", "is_room(value, faces)", "is_cut(value, faces)", "parts_of(room, cut)"],
    "rooms": ["play(book, start, history)", "plain(book, start, history)", "reached(book, start)", "way_to(book, start, room)"],
    "views": ["is_view(value)", "rule(view, cut)", "members(book, start, view)", "rows_seen(book, start, history, view)",
              "texts_of(book, start, view, cuts)"],
    "strands": ["strand_of(book, start, history, view, *, walk=0)"],
    "kept": ["links_of(book, start, view, machine)", "verdict(book, start, view, machine)"],
    "weigh": ["greatest(book, start, view, weights)"],
    "plans": ["placed(book, start, steps)", "meeting(book, start, steps)", "walk_at(book, start, steps, view, at)"],
    "touch": ["touching(book, start)", "touch_of(book, start, sign, first, second)"],
    "counting": ["trees_of(book, start, cuts)", "histories_of(book, start, cuts)", "grid_trees(book, start, wide, high)",
                 "most_rooms(book, start, wide, high)"],
    "alike": ["compare(book, other, start)"],
    "mends": ["least_mutes(book, start, view, machine)"],
    "pages": ["write_page(floor)", "read_page(text)", "columns(floor)"],
}
# For each class its constructor, and then its methods; a method without parentheses is one of the double-underscore ones.
CLASSES = {
    "books": {"Book(faces, cutters, *lines)": [
        "lines()", "cut(room, cutter)", "parts(room, cutter)", "line_at(room, cutter)", "idle()", "muted(*at)", "text()",
        "__eq__", "__len__", "__bool__", "__repr__"]},
    "machines": {"Machine(faces, table, bad=())": [
        "table()", "bad()", "__call__(string, state=0)", "__contains__", "__invert__", "__and__", "__or__", "__eq__", "__repr__"]},
    "strands": {"Strand(book, start, view, lines, top)": [
        "lines()", "holds()", "cuts()", "many()", "weight(weights)", "end(machine)", "room(at)", "text()", "addresses()",
        "history()", "__eq__", "__repr__"]},
    "papers": {"Paper(book, start)": ["told()", "holds()", "__repr__"]},
    "kept": {"Safe(book, start, view, machine, table)": ["table()", "told()", "holds()"],
             "Broken(book, start, view, machine, strand)": ["told()", "holds()"]},
    "weights": {"Weights(faces, *, each=0, **numbers)": [
        "put(face, number)", "copy()", "__call__(room)", "__getitem__", "__setitem__", "__add__", "__sub__", "__iadd__", "__neg__",
        "__mul__", "__rmul__", "__eq__", "__bool__", "__repr__"]},
    "weigh": {"Peak(book, start, view, weights, heights, strand)": ["heights()", "number()", "told()", "holds()"],
              "Rise(book, start, view, weights, lines, way, ring)": ["lines()", "way()", "ring()", "gain()", "told()", "holds()"]},
    "ratios": {"Ratio(top, bottom=1)": ["is_below(other)", "text()", "__add__", "__sub__", "__mul__", "__eq__", "__repr__"]},
    "touch": {"Touch(book, start, sign, steps, one, other)": ["steps()", "rooms()", "told()", "holds()"]},
    "grids": {"Plan(faces, wide, high, rooms)": ["rooms()", "whole()", "room_of(box)", "__eq__", "__len__", "__bool__", "__repr__"]},
    "back": {"Come(book, start, plan, steps)": ["steps()", "told()", "holds()"],
             "Barred(book, start, plan, boxes)": ["boxes()", "told()", "holds()"],
             "Back(book, start, plan)": ["born()", "comes()", "trees()", "histories()", "first_cuts()", "paper()", "__len__",
                                         "__bool__", "__repr__"]},
    "alike": {"Alike(book, other, start, rooms)": ["rooms()", "told()", "holds()"],
              "Apart(book, other, start, history)": ["history()", "told()", "holds()"]},
    "live": {"Floor(book, start, *, limit=60)": [
        "set_limit(value)", "cut(address, cutter, top=1, bottom=2)", "cut_all(*steps)", "unite(address)", "undo()", "redo()",
        "history()", "cuts()", "plain()", "rooms()", "walk()", "boxes()", "room(address)", "area(address)", "meeting()",
        "side(view)", "side_strand(view)", "seen(view, at)", "twin()", "__eq__", "__len__", "__bool__", "__repr__"]},
    "desk": {"Desk(floor)": ["say(line)", "__call__(line)", "log()", "__len__", "__bool__", "__repr__"]},
}
STATIC = {("books", "Book"): ["read(text)"],
          ("machines", "Machine"): ["without(faces, text)", "begins(faces, text)", "counted(faces, face, modulus, *, rest=0)"]}
PROPERTIES = {("machines", "Machine"): ["size"], ("weights", "Weights"): ["each"], ("live", "Floor"): ["limit"],
              ("desk", "Desk"): ["floor"]}
VALUES = {
    ("books", "Book", "MOST"): 8, ("machines", "Machine", "MOST"): 200, ("grids", "Plan", "MOST"): 12, ("live", "Floor", "MOST"): 99,
    ("papers", "Paper", "WORD"): "open",
    **{(file, name, "WORD"): name.lower() for file, names in (
        ("kept", ("Safe", "Broken")), ("weigh", ("Peak", "Rise")), ("touch", ("Touch",)), ("back", ("Come", "Barred")),
        ("alike", ("Alike", "Apart"))) for name in names},
}


def module(name):
    return importlib.import_module(f"fourwalls.{name}")


def told(call, skip=0):
    """Return the parameters of a function as a string, without the first ones."""
    parameters = list(inspect.signature(call).parameters.values())[skip:]
    return "(" + str(inspect.Signature(parameters))[1:]


class Interface(unittest.TestCase):
    def test_functions(self):
        for file, rows in FUNCTIONS.items():
            for row in rows:
                name = row.partition("(")[0]
                function = getattr(module(file), name)
                self.assertEqual((name + told(function), function.__module__), (row, f"fourwalls.{file}"))

    def test_classes_and_methods(self):
        for file, classes in CLASSES.items():
            for row, methods in classes.items():
                name = row.partition("(")[0]
                kind = getattr(module(file), name)
                self.assertEqual((name + told(kind.__init__, 1), kind.__module__), (row, f"fourwalls.{file}"))
                for method in methods:
                    own = vars(kind)[method.partition("(")[0]]
                    if "(" in method:
                        self.assertEqual(own.__name__ + told(own, 1), method)

    def test_static_methods_and_properties(self):
        for (file, name), methods in STATIC.items():
            for method in methods:
                own = vars(getattr(module(file), name))[method.partition("(")[0]]
                self.assertIsInstance(own, staticmethod)
                self.assertEqual(own.__func__.__name__ + told(own.__func__), method)
        for (file, name), names in PROPERTIES.items():
            for one in names:
                own = vars(getattr(module(file), name))[one]
                self.assertIsInstance(own, property)
                self.assertEqual(own.fset is not None, one == "limit")

    def test_values(self):
        for (file, name, value), expected in VALUES.items():
            self.assertEqual(vars(getattr(module(file), name))[value], expected)
        self.assertEqual((module("faces").MOST_TEXT, module("views").VIEWS), (16, "NESWAD"))

    def test_each_module_needs_only_those_above_it(self):
        order = ["errors", "faces", "books", "machines", "rooms", "views", "strands", "papers", "kept", "weights", "weigh", "ratios",
                 "plans", "touch", "counting", "grids", "back", "alike", "mends", "live", "pages", "desk"]
        for at, file in enumerate(order):
            for other in order[at + 1:]:
                self.assertNotIn(f"from fourwalls.{other} import", inspect.getsource(module(file)), file)


class ByName(unittest.TestCase):
    """Calls with all parameters by name give what they give by position."""

    GIVEN = {
        "book": CROSS, "start": "aaaa", "history": [("", "A"), ("1", "B")], "view": "A", "cuts": 2, "room": "aaab", "walk": 1,
        "machine": Machine.without("ab", "bb"), "weights": Weights("ab", a=-1), "steps": [("", "A", 1, 3), ("1", "B", 1, 2)],
        "at": Ratio(1, 4), "sign": "|", "first": "aaaa", "second": "aaab", "wide": 3, "high": 2, "other": CROSS.muted(1), "least": 0,
        "most": 3, "faces": "ab", "cut": "|ab", "value": "ab", "text": "ab", "face": "b", "modulus": 3, "rest": 2, "address": "10",
        "cutter": "A", "top": 1, "bottom": 3, "box": (0, 0, 2, 1), "limit": 7, "table": [(0, 0)], "bad": [0], "number": 5, "state": 0,
        "string": "ab",
    }
    FLOOR = Floor(CROSS, "aaaa")
    FLOOR.cut_all(("", "A", 1, 3), ("1", "B", 1, 2))
    OBJECTS = {
        "Book": CROSS, "Machine": Machine.without("ab", "bb"), "Ratio": Ratio(1, 2), "Weights": Weights("ab", b=3),
        "Strand": Strand(CROSS, "aaaa", "N", [("aaaa", "A", None, None)], 0),
        "Plan": Plan("ab", 3, 1, [(0, 0, 1, 1, "aaaa"), (1, 0, 2, 1, "aaab"), (2, 0, 3, 1, "aaab")]), "Floor": FLOOR,
    }

    def both(self, call, given):
        """Compare a call by position, as far as it takes it, with one by names in another order."""
        parameters = list(inspect.signature(call).parameters.values())
        kinds = [one.kind for one in parameters]
        if inspect.Parameter.VAR_POSITIONAL in kinds or inspect.Parameter.VAR_KEYWORD in kinds:
            return
        placed = [given[one.name] for one in parameters if one.kind == inspect.Parameter.POSITIONAL_OR_KEYWORD]
        named = {one.name: given[one.name] for one in parameters if one.kind == inspect.Parameter.KEYWORD_ONLY}
        answers = [call(*placed, **named), call(**{one.name: given[one.name] for one in parameters[::-1]})]
        if inspect.isgeneratorfunction(call):
            answers = [list(answer) for answer in answers]
        self.assertEqual(repr(answers[0]), repr(answers[1]), call)

    def test_functions(self):
        special = {"read_page": {"text": "a A\nfloor aaaa\n"}, "strand_of": {"history": [("", "B"), ("1", "B")]}}
        for file, rows in FUNCTIONS.items():
            for row in rows:
                name = row.partition("(")[0]
                self.both(getattr(module(file), name), {**self.GIVEN, "floor": self.FLOOR, **special.get(name, {})})

    def test_methods(self):
        special = {"is_below": {"other": Ratio(2, 3)}, "side": {"view": "N"}, "side_strand": {"view": "N"}, "set_limit": {"value": 9}}
        for classes in CLASSES.values():
            for row, methods in classes.items():
                kind = row.partition("(")[0]
                for name in [method.partition("(")[0] for method in methods if "(" in method]:
                    # These change the floor, so that the second call would not find what the first one did.
                    if kind in self.OBJECTS and name not in ("undo", "redo", "unite", "cut" if kind == "Floor" else ""):
                        given = {**self.GIVEN, **special.get(name, {}), **({"at": 1} if kind == "Strand" else {})}
                        self.both(getattr(self.OBJECTS[kind], name), given)

    def test_cuts_by_name(self):
        one, other = Floor(CROSS, "aaaa"), Floor(book=CROSS, start="aaaa", limit=60)
        self.assertEqual(one.cut("", "A", 1, 3), other.cut(bottom=3, top=1, cutter="A", address=""))
        self.assertEqual(one.cut("1", "B"), other.cut(cutter="B", address="1"))
        self.assertEqual(one.cut("0", "B", 1), other.cut("0", "B", bottom=2))
        self.assertEqual(one.unite("1"), other.unite(address="1"))
        self.assertEqual((one, one.limit), (other, 60))

    def test_constructors_and_static_methods(self):
        for row in STATIC["machines", "Machine"]:
            self.both(getattr(Machine, row.partition("(")[0]), self.GIVEN)
        self.both(Book.read, {"text": "ab A"})
        self.both(Machine, self.GIVEN)
        self.assertEqual(Machine("ab", [(0, 0)]), Machine(bad=(), table=((0, 0),), faces="ab"))
        self.assertEqual(Machine.counted("ab", "b", 3), Machine.counted(rest=0, modulus=3, face="b", faces="ab"))
        self.assertEqual(Ratio(3), Ratio(bottom=1, top=3))
        self.assertEqual(Book(faces="ab", cutters="A"), Book("ab", "A"))
        self.assertEqual(Weights(b=3, each=0, faces="ab"), Weights("ab", b=3))


if __name__ == "__main__":
    unittest.main()
