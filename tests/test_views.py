"""Views: rules, members, rows and texts."""

import unittest
from fractions import Fraction

from fourwalls.books import Book
from fourwalls.rooms import plain, play
from fourwalls.views import VIEWS, is_view, members, rows_seen, rule, texts_of
from samples import CROSS, RICH, all_histories, any_values, raised, rows_at_all, told

PLACES = [Fraction(1, 4), Fraction(1, 2), Fraction(3, 4)]
RULES = {
    "N": ("both", "first"), "E": ("second", "both"), "S": ("both", "second"), "W": ("first", "both"),
    "A": ("both", "either"), "D": ("either", "both"),
}


def grid(size):
    """Return a history of CROSS with so many level rows in each of so many upright columns."""
    history = []
    for column in range(size):
        address = "1" * column
        if column < size - 1:
            history.append((address, "A"))
            address += "0"
        history += [(address + "1" * row, "B") for row in range(size - 1)]
    return history


def first_item(*given):
    """Ask a generator of rows for its first item."""
    return next(rows_seen(*given))


class Views(unittest.TestCase):
    def test_views(self):
        self.assertEqual(VIEWS, "NESWAD")
        for value in any_values() + ["NE", "n", "X", "NESWAD"]:
            self.assertIs(is_view(value), value in ("A",))
        for view in "NESWAD":
            self.assertIs(is_view(value=view), True)

    def test_rules(self):
        for view, (upright, level) in RULES.items():
            for faces in ("ab", "aa", "zy"):
                self.assertEqual((rule(view, "|" + faces), rule(view, "-" + faces)), (upright, level))
        self.assertEqual(rule(cut="|ab", view="N"), "both")

    def test_wrong_views(self):
        for value in any_values() + ["NE", "n", ""]:
            if value != "A":
                self.assertEqual(told(raised(rule, value, "|ab")), ("InvalidView", {"given": value}))


class Members(unittest.TestCase):
    def test_members_of_one_cut(self):
        upright = Book("abcd", "A", ("a", "a", "a", "a", ".", "|bc"))
        level = Book("abcd", "A", ("a", "a", "a", "a", ".", "-bc"))
        rows = {"N": ["aaac", "abaa"], "E": ["aaac"], "S": ["aaac", "abaa"], "W": ["abaa"], "A": ["aaac", "abaa"],
                "D": ["aaac", "abaa"]}
        for view, more in rows.items():
            self.assertEqual(members(upright, "aaaa", view), sorted(["aaaa"] + more))
        rows = {"N": ["aaba"], "E": ["aaba", "caaa"], "S": ["caaa"], "W": ["aaba", "caaa"], "A": ["aaba", "caaa"],
                "D": ["aaba", "caaa"]}
        for view, more in rows.items():
            self.assertEqual(members(level, "aaaa", view), sorted(["aaaa"] + more))

    def test_members_against_rows(self):
        for book, start in ((CROSS, "abba"), (RICH, "aaaa"), (RICH, "bacb")):
            for view in VIEWS:
                seen = set()
                for cuts in range(4):
                    for history in all_histories(book, start, cuts):
                        rooms = dict(play(book, start, history))
                        seen.update(rooms[at] for row in rows_seen(book, start, history, view) for at in row)
                found = members(book, start, view)
                self.assertEqual(found, sorted(set(found)))
                self.assertLessEqual(seen, set(found))
                # What takes more cuts comes from rooms that are members themselves.
                self.assertEqual(set(found), {start}.union(*(members(book, room, view) for room in seen)))

    def test_member_that_is_reached_but_in_no_row(self):
        book = Book("ab", "A", ("a", ".", ".", ".", ".", "-bb"))
        self.assertEqual(members(book, "aaaa", "N"), ["aaaa", "aaba"])
        self.assertEqual(members(book, "aaaa", "S"), ["aaaa", "baaa"])
        self.assertEqual(members(start="bbbb", view="N", book=book), ["bbbb"])

    def test_errors(self):
        for value in any_values():
            if value != "aaaa":
                self.assertEqual(told(raised(members, CROSS, value, None)), ("InvalidRoom", {"given": value}))
            if value != "A":
                for book in (CROSS, Book("ab", "A")):
                    self.assertEqual(told(raised(members, book, "aaaa", value)), ("InvalidView", {"given": value}))

    def test_lists_are_new(self):
        members(CROSS, "aaaa", "N").clear()
        self.assertEqual(members(CROSS, "aaaa", "N"), ["aaaa", "aaab", "aaba", "aabb"])


class Rows(unittest.TestCase):
    def test_example(self):
        history = [("", "A"), ("1", "B")]
        self.assertEqual(list(rows_seen(CROSS, "aaaa", history, "E")), [["10", "11"]])
        self.assertEqual(list(rows_seen(CROSS, "aaaa", history, "A")), [["0", "10"], ["0", "11"]])

    def test_room_that_stands_is_its_own_row(self):
        for view in VIEWS:
            self.assertEqual(list(rows_seen(CROSS, "aaaa", [], view)), [[""]])

    def test_rows_against_places(self):
        for book, start, most in ((CROSS, "aaaa", 3), (RICH, "aaaa", 3), (RICH, "bacb", 3)):
            for cuts in range(most + 1):
                for history in all_histories(book, start, cuts):
                    for view in VIEWS:
                        rows = list(rows_seen(book, start, history, view))
                        self.assertEqual(rows, rows_at_all(book, start, history, view, PLACES), (history, view))

    def test_other_orders_and_cutters_that_go_away(self):
        book = CROSS.muted(0)
        self.assertEqual(list(rows_seen(book, "aaaa", [("", "A"), ("", "B"), ("1", "A")], "D")), [["0", "1"]])
        one = [("", "A"), ("1", "B"), ("0", "B")]
        other = (("", "A"), ("0", "B"), ("1", "B"))
        for view in VIEWS:
            self.assertEqual(list(rows_seen(CROSS, "aaaa", one, view)), list(rows_seen(CROSS, "aaaa", other, view)))

    def test_a_side_has_one_row(self):
        history = grid(20)
        for view in "NESW":
            self.assertEqual(len(list(rows_seen(CROSS, "aaaa", history, view))), 1)
        self.assertEqual(len(list(rows_seen(CROSS, "aaaa", history, "N"))[0]), 20)

    def test_2000_rows_and_more(self):
        # Five columns of four, five, five, five and four rooms: a walk across goes through one of each.
        def columns(*sizes):
            history = []
            for at, size in enumerate(sizes):
                address = "1" * at
                if at < len(sizes) - 1:
                    history.append((address, "A"))
                    address += "0"
                history += [(address + "1" * row, "B") for row in range(size - 1)]
            return history

        rows = list(rows_seen(CROSS, "aaaa", columns(4, 5, 5, 5, 4), "A"))
        self.assertEqual((len(rows), rows), (2000, sorted(rows)))
        self.assertEqual(len({tuple(row) for row in rows}), 2000)
        self.assertEqual(len(list(rows_seen(CROSS, "aaaa", columns(*[2] * 10), "D"))), 10)
        for sizes in ((3, 667), (2001,), (2,) * 60, (23, 87)):
            history = columns(*sizes)
            self.assertEqual(told(raised(first_item, CROSS, "aaaa", history, "A")), ("TooMany", {"most": 2000}))
            self.assertEqual(len(list(rows_seen(CROSS, "aaaa", history, "W"))), 1)
        self.assertEqual(len(list(rows_seen(CROSS, "aaaa", columns(2000), "A"))), 2000)

    def test_deep_trees(self):
        history = [("1" * many, "AB"[many % 2]) for many in range(400)]
        self.assertEqual([len(row) for row in rows_seen(CROSS, "aaaa", history, "S")], [201])
        self.assertEqual([len(row) for row in rows_seen(CROSS, "aaaa", history, "N")], [2])
        self.assertEqual(len(list(rows_seen(CROSS, "aaaa", history, "A"))), 201)

    def test_generator_raises_at_its_first_item(self):
        rows = rows_seen(CROSS, None, None, None)
        self.assertEqual(told(raised(next, rows)), ("InvalidRoom", {"given": None}))
        rows = rows_seen(book=CROSS, start="aaaa", history=[("", "A")], view="S")
        self.assertIs(iter(rows), rows)
        self.assertEqual(next(rows), ["0", "1"])
        self.assertRaises(StopIteration, next, rows)

    def test_errors_in_their_order(self):
        for value in any_values():
            if value != "aaaa":
                self.assertEqual(told(raised(first_item, CROSS, value, None, None)), ("InvalidRoom", {"given": value}))
            if not isinstance(value, (list, tuple)):
                self.assertEqual(told(raised(first_item, CROSS, "aaaa", value, None)), ("InvalidStep", {"at": -1}))
            if value != ("", "A"):
                error = raised(first_item, CROSS, "aaaa", [("", "A"), value], None)
                self.assertEqual(told(error), ("InvalidStep", {"at": 1}))
            if value != "A":
                for many in (0, 2001):
                    error = raised(first_item, CROSS, "aaaa", [("1" * at, "B") for at in range(many)], value)
                    self.assertEqual(told(error), ("InvalidView", {"given": value}))

    def test_lists_are_new(self):
        for row in rows_seen(CROSS, "aaaa", [("", "A")], "N"):
            row.clear()
        self.assertEqual(list(rows_seen(CROSS, "aaaa", [("", "A")], "N")), [["0", "1"]])


class Texts(unittest.TestCase):
    def test_texts_against_rows(self):
        for book, start in ((CROSS, "aaaa"), (RICH, "aaaa"), (RICH, "bacb"), (RICH, "cccc")):
            for view in VIEWS:
                for cuts in range(4):
                    expected = set()
                    for history in all_histories(book, start, cuts):
                        rooms = dict(play(book, start, history))
                        for row in rows_seen(book, start, history, view):
                            # A cut without a room of the row is no cut of its strand.
                            if all(any(at.startswith(cut) for at in row) for cut, _ in plain(book, start, history)):
                                expected.add("".join(rooms[at] for at in row))
                    self.assertEqual(texts_of(book, start, view, cuts), sorted(expected), (view, cuts))

    def test_by_hand(self):
        self.assertEqual(texts_of(CROSS, "aaaa", "N", 0), ["aaaa"])
        self.assertEqual(texts_of(CROSS, "aaaa", "N", 1), ["aaaaaaab", "aaba"])
        self.assertEqual(texts_of(CROSS, "aaaa", "A", 1), ["aaaa", "aaaaaaab", "aaba"])
        self.assertEqual(texts_of(Book("ab", "A"), "aaaa", "N", 0), ["aaaa"])
        self.assertEqual(texts_of(view="N", cuts=2, start="aaaa", book=Book("ab", "A")), [])

    def test_errors_in_their_order(self):
        for value in any_values() + [4, "1"]:
            if value != "aaaa":
                self.assertEqual(told(raised(texts_of, CROSS, value, None, None)), ("InvalidRoom", {"given": value}))
            if value != "A":
                self.assertEqual(told(raised(texts_of, CROSS, "aaaa", value, None)), ("InvalidView", {"given": value}))
            if isinstance(value, bool) or value not in (0, 1, 2, 3):
                self.assertEqual(told(raised(texts_of, CROSS, "aaaa", "N", value)), ("InvalidNumber", {"given": value}))

    def test_lists_are_new(self):
        texts_of(CROSS, "aaaa", "N", 1).clear()
        self.assertEqual(texts_of(CROSS, "aaaa", "N", 1), ["aaaaaaab", "aaba"])


if __name__ == "__main__":
    unittest.main()
