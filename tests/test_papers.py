"""Papers: what all of them have in common."""

import random
import unittest

from fourwalls.alike import Alike, Apart
from fourwalls.back import Barred, Come
from fourwalls.books import Book
from fourwalls.grids import Plan
from fourwalls.kept import Broken, Safe, verdict
from fourwalls.machines import Machine
from fourwalls.papers import Paper
from fourwalls.strands import Strand
from fourwalls.touch import Touch
from fourwalls.weigh import Peak, Rise, greatest
from fourwalls.weights import Weights
from samples import CROSS, any_values, draw_book, draw_machine, draw_room

UPRIGHT = Book("ab", "AB", (".", ".", ".", ".", "A", "|ab"))
WITHOUT = Machine.without("ab", "bb")
HEAVY = Weights("ab", each=1, b=2)
HALVES = Plan("ab", 2, 1, [(0, 0, 1, 1, "aaaa"), (1, 0, 2, 1, "aaab")])
UNMADE = Plan("ab", 2, 1, [(0, 0, 1, 1, "aaaa"), (1, 0, 2, 1, "bbbb")])

SAFE = verdict(UPRIGHT, "aaaa", "N", WITHOUT)
PEAK = greatest(UPRIGHT, "aaaa", "E", HEAVY)
STRAND = Strand(UPRIGHT, "aaaa", "N", [("aaaa", "A", None, None)], 0)

# For each class of papers the arguments of one that holds, besides the book and the start, and what it tells.
RIGHT = {
    "safe": (Safe, {"view": "N", "machine": WITHOUT, "table": SAFE.table()}, "safe"),
    "broken": (Broken, {"view": "N", "machine": Machine.without("ab", "ba"), "strand": Strand(
        UPRIGHT, "aaaa", "N", [("aaab", "A", None, None), ("aaaa", "A", None, 0)], 1)}, "broken by 2 cuts"),
    "peak": (Peak, {"view": "E", "weights": HEAVY, "heights": PEAK.heights(), "strand": PEAK.strand}, "peak 3"),
    "rise": (Rise, {"view": "N", "weights": HEAVY, "lines": [("aaab", "A", None, None)], "way": [("aaaa", "A", 1, None)],
                    "ring": [("aaab", "A", 0, 0)]}, "rise by 6"),
    "touch": (Touch, {"sign": "|", "steps": [("", "A", 1, 2)], "one": "0", "other": "1"}, "touch aaaa | aaab"),
    "come": (Come, {"plan": HALVES, "steps": [("", "A", 1, 2)]}, "come"),
    "barred": (Barred, {"plan": UNMADE, "boxes": [(0, 0, 1, 1), (1, 0, 2, 1)]}, "barred"),
    "alike": (Alike, {"other": Book("ab", "AB", *UPRIGHT.lines(), (".", ".", ".", ".", "B", "")), "rooms": ["aaaa", "aaab"]},
              "alike"),
    "apart": (Apart, {"other": Book("ab", "AB"), "history": [("", "A")]}, "apart"),
}
LISTS = ("table", "heights", "lines", "way", "ring", "steps", "boxes", "rooms", "history")


def made(word, start="aaaa", book=UPRIGHT, **changed):
    """Return the right paper with a word, with some of its arguments changed."""
    kind, given, _ = RIGHT[word]
    return kind(start=start, book=book, **{**given, **changed})


def is_list(value):
    return isinstance(value, (list, tuple))


class Base(unittest.TestCase):
    def test_paper(self):
        paper = Paper(CROSS, "aaaa")
        self.assertEqual((Paper.WORD, paper.WORD, paper.book, paper.start), ("open", "open", CROSS, "aaaa"))
        self.assertEqual((paper.told(), paper.holds(), repr(paper)), ("open", False, "Paper(open)"))
        self.assertEqual(Paper(start="b", book=UPRIGHT).start, "b")

    def test_any_start(self):
        for value in any_values():
            paper = Paper(CROSS, value)
            self.assertEqual(repr(paper.start), repr(value))
            self.assertEqual((paper.told(), paper.holds(), repr(paper)), ("open", False, "Paper(open)"))


class All(unittest.TestCase):
    def test_right_papers(self):
        for word, (kind, given, says) in RIGHT.items():
            paper = made(word)
            self.assertTrue(issubclass(kind, Paper))
            self.assertEqual((kind.WORD, paper.WORD, repr(paper)), (word, word, f"Paper({word})"))
            self.assertEqual((paper.told(), paper.told()), (says, says))
            self.assertIs(paper.holds(), True)
            self.assertIs(paper.holds(), True)
            self.assertEqual((paper.book, paper.start), (UPRIGHT, "aaaa"))
            for name, value in given.items():
                self.assertEqual(getattr(paper, name)() if name in LISTS else getattr(paper, name), value)

    def test_arguments_by_position(self):
        for word, (kind, given, says) in RIGHT.items():
            values = list(given.values())
            if word in ("alike", "apart"):
                paper = kind(UPRIGHT, values[0], "aaaa", values[1])
            else:
                paper = kind(UPRIGHT, "aaaa", *values)
            self.assertEqual((paper.told(), paper.holds()), (says, True))

    def test_methods_are_those_of_the_class_itself(self):
        for kind, given, _ in RIGHT.values():
            own = vars(kind)
            for name in ("told", "holds", "WORD", *[name for name in given if name in LISTS]):
                self.assertIn(name, own)

    def test_any_value_at_each_place(self):
        for word, (kind, given, _) in RIGHT.items():
            for value in any_values():
                for name in given:
                    paper = made(word, **{name: value})
                    kept = getattr(paper, name)() if name in LISTS else getattr(paper, name)
                    expected = list(value) if name in LISTS and is_list(value) else value
                    self.assertEqual(repr(kept), repr(expected))
                    # A walk across has the rows of the north side here, as there is no level cut.
                    right = (word, name, value) in (("safe", "view", "A"), ("rise", "view", "A"), ("touch", "sign", "|"))
                    self.assertIs(paper.holds(), right, (word, name, value))
                    self.assertEqual(repr(paper), f"Paper({word})")
                    self.assertTrue(paper.told().startswith(word))
                if value != "aaaa":
                    paper = made(word, value)
                    self.assertEqual(repr(paper.start), repr(value))
                    self.assertIs(paper.holds(), False, (word, value))

    def test_any_value_at_all_places(self):
        for word, (_, given, _) in RIGHT.items():
            for value in any_values():
                paper = made(word, value, **{name: value for name in given})
                self.assertEqual((paper.holds(), repr(paper)), (False, f"Paper({word})"))

    def test_other_starts_views_and_books(self):
        for word, (_, given, _) in RIGHT.items():
            for start in ("aaac", "aaa", "aaaaa", "bbbb", "AAAA", ""):
                right = start == "bbbb" and word in ("touch", "barred", "apart")
                self.assertIs(made(word, start).holds(), right, (word, start))
            for view in ("X", "n", "NE", "", "I") if "view" in given else ():
                self.assertIs(made(word, view=view).holds(), False, (word, view))
            self.assertIs(made(word, book=Book("ac", "A")).holds(), False, word)
            other = Book("abc", "AB", *UPRIGHT.lines())
            # A touch has nothing besides the book that has faces.
            self.assertIs(made(word, book=other).holds(), word == "touch", word)

    def test_lists_that_are_passed_and_returned_are_copied(self):
        for word, (_, given, _) in RIGHT.items():
            for name in [name for name in given if name in LISTS]:
                inside = [1]
                value = [("aaaa", inside), [inside, 2], 3]
                paper = made(word, **{name: value})
                inside.append(4)
                value.append(5)
                expected = [("aaaa", [1]), [[1], 2], 3]
                self.assertEqual(getattr(paper, name)(), expected)
                kept = getattr(paper, name)()
                kept[0][1].append(6)
                kept[1][0].append(6)
                kept[1].append(6)
                kept.append(6)
                self.assertEqual(getattr(paper, name)(), expected)
                self.assertEqual(getattr(made(word, **{name: tuple(expected)}), name)(), expected)

    def test_attributes_are_copied(self):
        for word, (_, given, _) in RIGHT.items():
            for name in [name for name in given if name not in LISTS]:
                value = [1, [2]]
                paper = made(word, value, **{name: value})
                value[1].append(3)
                value.append(4)
                self.assertEqual((paper.start, getattr(paper, name)), ([1, [2]], [1, [2]]))

    def test_item_without_its_form(self):
        for word, (_, given, _) in RIGHT.items():
            for name in [name for name in given if name in LISTS]:
                right = given[name]
                for value in any_values():
                    for at in range(len(right) + 1):
                        paper = made(word, **{name: right[:at] + [value] + right[at:]})
                        self.assertIs(paper.holds(), (word, value) == ("alike", "aaaa"), (word, name, value))
                for at, item in enumerate(right):
                    for bent in self.bent(word, name, item):
                        paper = made(word, **{name: right[:at] + [bent] + right[at + 1:]})
                        self.assertIs(paper.holds(), False, (word, name, bent))

    def bent(self, word, name, item):
        """Return items that are not right in the place of a right one."""
        found = [list(item), item[:-1], (), item[1:], item + item, (item,)]
        if isinstance(item, str):
            return found + [item + "a", item[:3] + "c", tuple(item), "bbbb", ""]
        found.append(item + (None,))
        for place in range(len(item)):
            for value in any_values() + [item]:
                if repr(value) != repr(item[place]) and not self.is_right_too(word, name, value, item, place):
                    found.append(item[:place] + (value,) + item[place + 1:])
        return found

    def is_right_too(self, word, name, value, item, place):
        """Tell whether another value at this place leaves the paper right."""
        if word == "peak" and place == 1 and isinstance(value, int) and not isinstance(value, bool):
            return item[0] != "aaaa" and value >= item[1]
        if word == "touch":
            return (place, value) == (3, 999999999999999999)
        # An item may be None or the index of a line with the room aaab; the ring goes round by either part.
        return word == "rise" and (name, place) in (("ring", 3), ("way", 3), ("ring", 2)) and repr(value) in (
            "None", "0", "1") and (name, place, value) not in (("way", 3, 0), ("way", 3, 1), ("ring", 3, 1))


class Drawn(unittest.TestCase):
    def test_what_is_returned_may_be_passed(self):
        draw = random.Random(8)
        for _ in range(60):
            book = draw_book(draw, "abc", "AB", 4)
            start = draw_room(draw, "abc")
            view = draw.choice("NESWAD")
            machine = draw_machine(draw, "abc")
            paper = verdict(book, start, view, machine)
            if paper.WORD == "safe":
                self.assertTrue(Safe(book, start, view, machine, tuple(paper.table())).holds())
            else:
                self.assertTrue(Broken(book, start, view, machine, paper.strand).holds())


if __name__ == "__main__":
    unittest.main()
