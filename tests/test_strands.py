"""Strands: their form, their rows, and the strands of rows that are seen."""

import itertools
import unittest

from fourwalls.books import Book
from fourwalls.machines import Machine
from fourwalls.rooms import plain, play
from fourwalls.strands import Strand, strand_of
from fourwalls.views import VIEWS, is_view, rows_seen, rule
from samples import CHARACTERS, CROSS, LINES, RICH, all_histories, any_values, raised, told

UPRIGHT = Book("ab", "AB", (".", ".", ".", ".", "A", "|ab"))
ENDLESS = Book("a", "AB", (".", ".", ".", ".", "A", "|aa"), (".", ".", ".", ".", "B", "-aa"))

# For each view a right strand of CROSS: lines, top, addresses and history.
RIGHT = {
    "N": ([("aaab", "B", None, "-"), ("aaaa", "A", None, 0)], 1, ["0", "10"], [("", "A"), ("1", "B")]),
    "E": ([("aaab", "B", None, None), ("aaaa", "A", "-", 0)], 1, ["10", "11"], [("", "A"), ("1", "B")]),
    "S": ([("aaab", "B", "-", None), ("aaaa", "A", None, 0)], 1, ["0", "11"], [("", "A"), ("1", "B")]),
    "W": ([("aaaa", "B", None, None), ("aaaa", "A", 0, "-")], 1, ["00", "01"], [("", "A"), ("0", "B")]),
    "A": ([("aaab", "B", "-", None), ("aaaa", "A", None, 0)], 1, ["0", "11"], [("", "A"), ("1", "B")]),
    "D": ([("aaaa", "A", None, "-"), ("aaaa", "B", None, 0)], 1, ["0", "10"], [("", "B"), ("1", "A")]),
}


def weigh(room):
    """Weigh a room as weights would: each 1, a 0, b 3."""
    return 1 + 3 * room.count("b")


class Weights:
    """Stands in for weights: called with a room, it gives a number."""

    def __call__(self, room):
        return weigh(room)


def doubled(many):
    """Return a strand of N whose row has 2 ** many rooms."""
    lines = [("aaaa", "A", None, None)] + [("aaaa", "A", at, at) for at in range(many - 1)]
    return Strand(ENDLESS, "aaaa", "N", lines, many - 1)


def chain(many):
    """Return a strand of N with so many cuts and one room more."""
    lines = [("aaaa", "A", None, None)] + [("aaaa", "A", None, at) for at in range(many - 1)]
    return Strand(ENDLESS, "aaaa", "N", lines, many - 1)


def deep(many):
    """Return a strand of N with so many cuts and one room."""
    lines = [("aaaa", "B", None, "-")] + [("aaaa", "B", at, "-") for at in range(many - 1)]
    return Strand(ENDLESS, "aaaa", "N", lines, many - 1)


def wrong_items(item):
    """Return what is wrong in the place of a right item, but for another way to be in the row or not."""
    values = any_values() + CHARACTERS + [-1, 1, 2, "--", "0", "None", [None], (None,), ["-"]]
    return [value for value in values if value is not None and value != "-" and repr(value) not in (repr(item), "0")]


def methods(strand):
    """Return the calls of a strand that need it to hold."""
    return [strand.cuts, strand.many, lambda: strand.weight(weigh), lambda: strand.end(Machine("ab", [(0, 0)])),
            lambda: strand.room(None), strand.text, strand.addresses, strand.history]


class Making(unittest.TestCase):
    def test_attributes_and_lines(self):
        lines, top, _, _ = RIGHT["N"]
        for given in (lines, tuple(lines)):
            strand = Strand(CROSS, "aaaa", "N", given, top)
            self.assertEqual((strand.book, strand.start, strand.view, strand.top), (CROSS, "aaaa", "N", top))
            self.assertEqual(strand.lines(), lines)
            self.assertIsInstance(strand.lines(), list)
        self.assertEqual(Strand(top=top, lines=lines, view="N", start="aaaa", book=CROSS), strand)

    def test_any_values(self):
        for value in any_values():
            strand = Strand(CROSS, value, value, value, value)
            expected = list(value) if isinstance(value, (list, tuple)) else value
            self.assertEqual(repr(strand.lines()), repr(expected))
            self.assertEqual(repr((strand.start, strand.view, strand.top)), repr((value, value, value)))
            self.assertIs(strand.holds(), False)
            for method in methods(strand):
                self.assertEqual(told(raised(method)), ("InvalidPaper", {}))

    def test_copies(self):
        inside = [1]
        lines = [("aaaa", "A", inside, None), [inside], 5]
        top = [inside]
        strand = Strand(CROSS, inside, inside, lines, top)
        inside.append(2)
        lines.append(6)
        self.assertEqual((strand.start, strand.view, strand.top), ([1], [1], [[1]]))
        kept = strand.lines()
        self.assertEqual(kept, [("aaaa", "A", [1], None), [[1]], 5])
        kept[0][2].append(3)
        kept[1][0].append(3)
        kept.append(7)
        self.assertEqual(strand.lines(), [("aaaa", "A", [1], None), [[1]], 5])

    def test_returned_lists_are_new(self):
        lines, top, addresses, history = RIGHT["N"]
        strand = Strand(CROSS, "aaaa", "N", lines, top)
        for method in (strand.lines, strand.addresses, strand.history):
            method().clear()
        self.assertEqual((strand.lines(), strand.addresses(), strand.history()), (lines, addresses, history))

    def test_equal(self):
        lines, top, _, _ = RIGHT["N"]
        strand = Strand(CROSS, "aaaa", "N", lines, top)
        self.assertTrue(strand == Strand(Book.read(CROSS.text()), "aaaa", "N", tuple(lines), top))
        self.assertFalse(strand != Strand(CROSS, "aaaa", "N", lines, top))
        unlike = [Strand(RICH, "aaaa", "N", lines, top), Strand(CROSS, "aaab", "N", lines, top),
                  Strand(CROSS, "aaaa", "A", lines, top), Strand(CROSS, "aaaa", "N", lines[:1], top),
                  Strand(CROSS, "aaaa", "N", lines, 0), Strand(CROSS, "aaaa", "N", lines, None),
                  Strand(CROSS, "aaaa", "N", lines, True), Strand(CROSS, "aaaa", "N", None, top),
                  Strand(CROSS, "aaaa", "N", [lines[0], ("aaaa", "A", None, False)], top),
                  Strand(CROSS, "aaaa", "N", [lines[0], list(lines[1])], top)]
        for other in unlike:
            self.assertFalse(strand == other)
            self.assertTrue(strand != other)
        for value in any_values() + [lines]:
            self.assertEqual(strand == value, False)
            self.assertTrue(Strand(CROSS, value, value, value, value) == Strand(CROSS, value, value, value, value))

    def test_repr(self):
        for many in (0, 1, 3):
            self.assertEqual(repr(Strand(CROSS, "aaaa", "N", [None] * many, 0)), f"Strand({many} lines)")
            self.assertEqual(repr(Strand(CROSS, "aaaa", "N", (None,) * many, 0)), f"Strand({many} lines)")
        for value in (None, 5, "abc", True, CROSS):
            self.assertEqual(repr(Strand(CROSS, "aaaa", "N", value, 0)), "Strand(0 lines)")


class Holding(unittest.TestCase):
    def test_right_strands(self):
        for view, (lines, top, addresses, history) in RIGHT.items():
            strand = Strand(CROSS, "aaaa", view, lines, top)
            self.assertIs(strand.holds(), True, view)
            self.assertEqual((strand.addresses(), strand.history()), (addresses, history))
            rooms = dict(play(CROSS, "aaaa", history))
            self.assertEqual(strand.text(), "".join(rooms[at] for at in addresses))
            self.assertEqual((strand.cuts(), strand.many()), (2, 2))
            for at in range(2):
                self.assertEqual(strand.room(at), rooms[addresses[at]])

    def test_start_that_stands_whole(self):
        for view in VIEWS:
            for lines in ([], (), [("aaaa", "A", "-" if view == "E" else None, "-" if view in "WD" else None)]):
                strand = Strand(CROSS, "abab", view, lines, None)
                self.assertIs(strand.holds(), True, (view, lines))
                self.assertEqual((strand.cuts(), strand.many(), strand.text(), strand.room(0)), (0, 1, "abab", "abab"))
                self.assertEqual((strand.addresses(), strand.history(), strand.weight(weigh)), ([""], [], 7))
                self.assertEqual(strand.end(Machine.counted("ab", "b", 3)), Machine.counted("ab", "b", 3)("abab"))

    def test_start_and_view(self):
        lines, top, _, _ = RIGHT["N"]
        for value in any_values():
            if value != "aaaa":
                self.assertIs(Strand(CROSS, value, "N", lines, top).holds(), False)
                self.assertIs(Strand(CROSS, value, "N", [], None).holds(), False)
            self.assertIs(Strand(CROSS, "aaaa", value, [], None).holds(), is_view(value))
        for start in ("aaac", "aaa", "aaaaa", "abaa"):
            self.assertIs(Strand(CROSS, start, "N", lines, top).holds(), False)

    def test_each_rule_takes_just_its_items(self):
        allowed = {
            "both": [(None, None)], "first": [(None, "-")], "second": [("-", None)],
            "either": [(None, "-"), ("-", None)],
        }
        for view in VIEWS:
            for cutter in "AB":
                how = rule(view, CROSS.cut("aaaa", cutter))
                for items in itertools.product((None, "-"), repeat=2):
                    strand = Strand(CROSS, "aaaa", view, [("aaaa", cutter) + items], 0)
                    self.assertIs(strand.holds(), items in allowed[how], (view, cutter, items))

    def test_one_wrong_thing_in_a_line(self):
        for view, (lines, top, _, _) in RIGHT.items():
            for at in (0, 1):
                room, cutter, first, second = lines[at]
                wrong = [list(lines[at]), lines[at][:3], lines[at] + (None,), None, "line", 5, (lines[at],)]
                wrong += [(value, cutter, first, second) for value in any_values() + ["aaac"] if value != room]
                wrong += [(room, value, first, second) for value in any_values() + ["C", "AB", ""] if value != cutter]
                wrong += [(room, cutter, item, second) for item in wrong_items(first)]
                wrong += [(room, cutter, first, item) for item in wrong_items(second)]
                for line in wrong:
                    given = lines[:at] + [line] + lines[at + 1:]
                    strand = Strand(CROSS, "aaaa", view, given, top)
                    self.assertIs(strand.holds(), False, (view, at, line))
                    # Also with a top that stands whole, each line has to be right.
                    self.assertIs(Strand(CROSS, "aaaa", view, given, None).holds(), False, (view, at, line))

    def test_items_in_the_wrong_place(self):
        for view, (lines, top, _, _) in RIGHT.items():
            for at in (0, 1):
                room, cutter, first, second = lines[at]
                swaps = [("-", "-"), (second, first)] if (first, second) != (None, None) else [("-", "-")]
                swaps += [(None, None)] if "-" in (first, second) else []
                swaps += [(0, None), (None, 0), (1, None), (None, 1)]
                for items in swaps:
                    how = rule(view, CROSS.cut(room, cutter))
                    right = how == "either" and sorted(map(str, items)) == ["-", "None"]
                    right = right or at == 1 and self.named_right(lines, room, cutter, items, how)
                    strand = Strand(CROSS, "aaaa", view, lines[:at] + [(room, cutter) + items] + lines[at + 1:], top)
                    self.assertIs(strand.holds(), right, (view, at, items))

    def named_right(self, lines, room, cutter, items, how):
        """Tell whether items that name the first line, or nothing, are right in the second one."""
        parts = CROSS.parts(room, cutter)
        fit = [item is None or item == 0 and lines[0][0] == part for item, part in zip(items, parts)]
        out = [item == "-" for item in items]
        both, first, second = fit[0] and fit[1], fit[0] and out[1], out[0] and fit[1]
        return {"both": both, "first": first, "second": second, "either": first or second}[how]

    def test_index_is_that_of_an_earlier_line_with_this_room(self):
        cut = ("aaaa", "A", None, None)
        other = ("abab", "A", None, None)
        for lines, right in (([cut, ("aaaa", "A", 0, None)], True), ([cut, ("aaaa", "A", 1, None)], False),
                             ([cut, ("aaaa", "A", 2, None)], False), ([cut, ("aaaa", "A", -1, None)], False),
                             ([("aaaa", "A", 1, None), cut], False), ([("aaaa", "A", 0, None), cut], False),
                             ([other, ("aaaa", "A", 0, None)], False), ([cut, ("aaaa", "A", None, 0)], False),
                             ([cut, other, ("aaaa", "A", 0, None)], True), ([cut, other, ("aaaa", "A", 1, None)], False),
                             ([cut, ("aaaa", "A", False, None)], False), ([cut, cut, ("aaaa", "A", True, None)], False),
                             ([cut, ("aaaa", "A", "0", None)], False), ([cut, ("aaaa", "A", [0], None)], False)):
            self.assertIs(Strand(UPRIGHT, "aaaa", "N", lines, None).holds(), right, lines)
            self.assertIs(Strand(UPRIGHT, "aaaa", "N", lines, len(lines) - 1).holds(), right, lines)

    def test_cutter_that_goes_away(self):
        book = CROSS.muted(1)
        self.assertIs(Strand(book, "aaaa", "A", [("aaaa", "A", None, None)], 0).holds(), True)
        for items in itertools.product((None, "-"), repeat=2):
            for view in VIEWS:
                self.assertIs(Strand(book, "aaaa", view, [("aaaa", "B") + items], 0).holds(), False)
                self.assertIs(Strand(UPRIGHT, "aaaa", view, [("aaaa", "B") + items], None).holds(), False)

    def test_tops(self):
        lines, _, _, _ = RIGHT["N"]
        for top in any_values() + [2, -1, "1", [1], (1,)]:
            strand = Strand(CROSS, "aaaa", "N", lines, top)
            right = top is None or isinstance(top, int) and not isinstance(top, bool) and top == 1
            self.assertIs(strand.holds(), right, top)
        self.assertIs(Strand(CROSS, "aaab", "N", lines, 0).holds(), True)
        self.assertIs(Strand(CROSS, "aaab", "N", lines, False).holds(), False)
        self.assertIs(Strand(CROSS, "aaaa", "N", [], 0).holds(), False)

    def test_lines_that_are_no_list(self):
        for value in any_values():
            right = value in ([], ()) if isinstance(value, (list, tuple)) else False
            self.assertIs(Strand(CROSS, "aaaa", "N", value, None).holds(), right)

    def test_every_method_needs_it_to_hold(self):
        lines, top, _, _ = RIGHT["N"]
        for strand in (Strand(CROSS, "aaab", "N", lines, top), Strand(CROSS, "aaaa", "n", lines, top),
                       Strand(CROSS, "aaaa", "N", None, None), Strand(CROSS, "aaaa", "N", lines, True)):
            for method in methods(strand):
                self.assertEqual(told(raised(method)), ("InvalidPaper", {}))


class Rows(unittest.TestCase):
    def assert_same_row(self, strand, book, start, history, row):
        """Check all that a strand tells of a row against the history itself."""
        rooms = dict(play(book, start, history))
        tree = [(at, cutter) for at, cutter in plain(book, start, history) if any(one.startswith(at) for one in row)]
        text = "".join(rooms[at] for at in row)
        self.assertTrue(strand.holds())
        self.assertEqual((strand.addresses(), strand.history(), strand.text()), (row, tree, text))
        self.assertEqual((strand.cuts(), strand.many()), (len(tree), len(row)))
        self.assertEqual([strand.room(at) for at in range(len(row))], [rooms[at] for at in row])
        self.assertEqual(strand.weight(Weights()), sum(weigh(rooms[at]) for at in row))
        for machine in (Machine.without(book.faces, "aa" + book.faces[-1]), Machine.counted(book.faces, "a", 5)):
            self.assertEqual(strand.end(machine), machine(text))
        self.assertEqual(told(raised(strand.room, len(row))), ("UnknownRoom", {"at": len(row)}))

    def test_strand_of_against_rows(self):
        for book, start, most in ((CROSS, "aaaa", 3), (RICH, "aaaa", 3), (RICH, "bacb", 3)):
            for cuts in range(most + 1):
                for history in all_histories(book, start, cuts):
                    for view in VIEWS:
                        for walk, row in enumerate(rows_seen(book, start, history, view)):
                            strand = strand_of(book, start, history, view, walk=walk)
                            self.assertEqual((strand.book, strand.start, strand.view), (book, start, view))
                            self.assert_same_row(strand, book, start, history, row)

    def test_line_that_is_named_twice(self):
        lines = [("aaaa", "B", None, "-"), ("aaaa", "A", 0, 0), ("aaaa", "A", 1, 1)]
        strand = Strand(ENDLESS, "aaaa", "N", lines, 2)
        self.assertEqual((strand.cuts(), strand.many(), strand.weight(weigh)), (7, 4, 4))
        self.assertEqual(strand.addresses(), ["000", "010", "100", "110"])
        history = [("", "A"), ("0", "A"), ("00", "B"), ("01", "B"), ("1", "A"), ("10", "B"), ("11", "B")]
        self.assertEqual(strand.history(), history)
        self.assert_same_row(strand, ENDLESS, "aaaa", history, strand.addresses())

    def test_unlike_rooms_in_a_shared_row(self):
        # Each cut makes a room aaab, so only the first one of the row is aaaa.
        lines = [("aaaa", "A", None, None)] + [("aaaa", "A", at, None) for at in range(299)]
        strand = Strand(UPRIGHT, "aaaa", "S", lines, 299)
        self.assertEqual((strand.cuts(), strand.many()), (300, 301))
        self.assertEqual(strand.text(), "aaaa" + "aaab" * 300)
        self.assertEqual([strand.room(0), strand.room(1), strand.room(300)], ["aaaa", "aaab", "aaab"])
        self.assertEqual(strand.weight(Weights()), 1 + 4 * 300)
        self.assertEqual(strand.end(Machine.counted("ab", "b", 7)), Machine.counted("ab", "b", 7)("b" * 300))

    def test_rows_of_very_great_length(self):
        for many in (1, 2, 9, 60, 400, 600):
            strand = doubled(many)
            self.assertTrue(strand.holds())
            self.assertEqual((strand.many(), strand.cuts()), (2 ** many, 2 ** many - 1))
            self.assertEqual(strand.weight(lambda room: 10 ** 30), 10 ** 30 * 2 ** many)
            for modulus in (2, 3, 7):
                machine = Machine.counted("a", "a", modulus)
                self.assertEqual(strand.end(machine), machine("a" * (4 * pow(2, many, modulus))))
            for at in (0, 1, 2 ** many // 3, 2 ** many - 1):
                self.assertEqual(strand.room(at), "aaaa")
            for at in (-1, 2 ** many):
                self.assertEqual(told(raised(strand.room, at)), ("UnknownRoom", {"at": at}))

    def test_room_in_a_very_long_row(self):
        # From aaab come aaab and aaab; from aaaa come aaaa and aaab.
        lines = [("aaab", "A", None, None)] + [("aaab", "A", at, at) for at in range(99)]
        lines.append(("aaaa", "A", None, 99))
        strand = Strand(UPRIGHT, "aaaa", "N", lines, 100)
        self.assertEqual((strand.many(), strand.cuts()), (2 ** 100 + 1, 2 ** 100))
        for at, room in ((0, "aaaa"), (1, "aaab"), (2 ** 99, "aaab"), (2 ** 100, "aaab")):
            self.assertEqual(strand.room(at), room)
        self.assertEqual(strand.weight(weigh), 1 + 4 * 2 ** 100)
        self.assertEqual(told(raised(strand.room, 2 ** 100 + 1)), ("UnknownRoom", {"at": 2 ** 100 + 1}))

    def test_unknown_rooms(self):
        lines, top, _, _ = RIGHT["N"]
        strand = Strand(CROSS, "aaaa", "N", lines, top)
        for value in any_values() + [2, -2]:
            if isinstance(value, bool) or value not in (0, 1):
                self.assertEqual(told(raised(strand.room, value)), ("UnknownRoom", {"at": value}))
        self.assertEqual(strand.room(at=1), strand.room(1))

    def test_end_reads_the_row_from_the_left(self):
        book = Book("abc", "A", (".", ".", ".", ".", "A", "|bc"))
        strand = Strand(book, "aaaa", "N", [("aaaa", "A", None, None)], 0)
        self.assertEqual(strand.text(), "abaaaaac")
        for text in ("abaaaaac", "aaacabaa"):
            machine = Machine.begins("abc", text)
            self.assertEqual(strand.end(machine), machine("abaaaaac"))
        self.assertEqual(strand.end(machine=Machine("abc", [(0, 1, 2), (1, 1, 1), (2, 2, 2)])), 1)
        whole = Machine("abc", [((at + 1) % 200, (2 * at) % 200, (at + 7) % 200) for at in range(200)])
        self.assertEqual(strand.end(whole), whole("abaaaaac"))

    def test_400_rooms_and_400_cuts(self):
        strand = chain(399)
        self.assertEqual((strand.many(), strand.text()), (400, "aaaa" * 400))
        self.assertEqual(strand.addresses(), ["1" * at + "0" for at in range(399)] + ["1" * 399])
        self.assertEqual(strand.history(), [("1" * at, "A") for at in range(399)])
        strand = deep(400)
        self.assertEqual((strand.cuts(), strand.many(), strand.text()), (400, 1, "aaaa"))
        self.assertEqual((strand.addresses(), strand.history()), (["0" * 400], [("0" * at, "B") for at in range(400)]))
        for strand in (chain(400), deep(401), doubled(9), doubled(600)):
            for method in (strand.text, strand.addresses, strand.history):
                self.assertEqual(told(raised(method)), ("TooMany", {"most": 400}))

    def test_lines_that_the_row_does_not_use(self):
        lines = [("bbbb", "A", None, None), ("aaaa", "A", None, None), ("bbbb", "A", None, None)]
        strand = Strand(UPRIGHT, "aaaa", "N", lines, 1)
        self.assertEqual((strand.cuts(), strand.many(), strand.text()), (1, 2, "aaaaaaab"))
        self.assertEqual((strand.weight(weigh), strand.history()), (5, [("", "A")]))


class StrandOf(unittest.TestCase):
    def test_without_walk(self):
        history = [("", "A"), ("1", "B")]
        self.assertEqual(strand_of(CROSS, "aaaa", history, "A").addresses(), ["0", "10"])
        self.assertEqual(strand_of(CROSS, "aaaa", history, "A", walk=1).addresses(), ["0", "11"])
        strand = strand_of(view="E", history=history, start="aaaa", book=CROSS)
        self.assertEqual((strand.addresses(), strand.history()), (["10", "11"], history))
        with self.assertRaises(TypeError):
            strand_of(CROSS, "aaaa", history, "A", 1)

    def test_cuts_beside_the_row_do_not_count(self):
        history = [("", "B"), ("1", "A"), ("11", "A"), ("0", "A"), ("01", "B")]
        strand = strand_of(CROSS, "aaaa", history, "N")
        self.assertEqual(strand.history(), [("", "B"), ("0", "A"), ("01", "B")])
        self.assertEqual((strand.cuts(), strand.addresses()), (3, ["00", "010"]))

    def test_cutters_that_go_away(self):
        book = Book("ab", "AB", LINES[0], (".", ".", ".", ".", "B", "-ab"))
        history = [("", "B"), ("1", "A"), ("1", "A"), ("0", "A")]
        for view in VIEWS:
            for walk, row in enumerate(rows_seen(book, "aaaa", history, view)):
                strand = strand_of(book, "aaaa", history, view, walk=walk)
                self.assertEqual((strand.holds(), strand.addresses()), (True, row))

    def test_long_history(self):
        history = [("1" * many, "A") for many in range(400)]
        strand = strand_of(CROSS, "aaaa", history, "N")
        self.assertEqual((strand.cuts(), strand.many(), strand.holds()), (400, 401, True))

    def test_errors_in_their_order(self):
        many = [("1" * at, "B") for at in range(2001)]
        for value in any_values() + [2]:
            if value != "aaaa":
                error = raised(strand_of, CROSS, value, None, None, walk=None)
                self.assertEqual(told(error), ("InvalidRoom", {"given": value}))
            if not isinstance(value, (list, tuple)):
                error = raised(strand_of, CROSS, "aaaa", value, None, walk=None)
                self.assertEqual(told(error), ("InvalidStep", {"at": -1}))
            if value != ("", "A"):
                error = raised(strand_of, CROSS, "aaaa", [value], None, walk=None)
                self.assertEqual(told(error), ("InvalidStep", {"at": 0}))
            if value != "A":
                for steps in (many, []):
                    error = raised(strand_of, CROSS, "aaaa", steps, value, walk=None)
                    self.assertEqual(told(error), ("InvalidView", {"given": value}))
            if isinstance(value, bool) or value not in (0, 1):
                error = raised(strand_of, CROSS, "aaaa", [("", "B")], "A", walk=value)
                self.assertEqual(told(error), ("InvalidNumber", {"given": value}))
        self.assertEqual(told(raised(strand_of, CROSS, "aaaa", many, "A", walk=None)), ("TooMany", {"most": 2000}))
        self.assertEqual(told(raised(strand_of, CROSS, "aaaa", [], "N", walk=1)), ("InvalidNumber", {"given": 1}))


if __name__ == "__main__":
    unittest.main()
