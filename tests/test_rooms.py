"""Histories of a start, and the rooms that can come."""

import unittest

from fourwalls.books import Book
from fourwalls.rooms import plain, play, reached, way_to
from samples import CROSS, RICH, all_histories, any_values, raised, told

ONCE = Book("ab", "A", ("a", ".", ".", ".", "A", "|ab"), ("b", ".", ".", ".", "A", ""))


class Histories(unittest.TestCase):
    def test_example(self):
        rooms = play(CROSS, "aaaa", [("", "A"), ("1", "B")])
        self.assertEqual(rooms, [("0", "aaaa"), ("10", "aabb"), ("11", "aaab")])
        self.assertEqual(plain(CROSS, "aaaa", [("", "A"), ("1", "B")]), [("", "A"), ("1", "B")])

    def test_empty_history(self):
        self.assertEqual([play(CROSS, "abab", []), plain(CROSS, "abab", ())], [[("", "abab")], []])

    def test_cutters_that_go_away(self):
        book = Book("ab", "AB", (".", ".", ".", ".", "B", "-ba"), (".", "a", ".", ".", "A", ""))
        history = [("", "A"), ("", "B"), ("0", "A"), ("1", "A"), ("1", "B"), ("11", "A")]
        self.assertEqual(plain(book, "aaaa", history), [("", "B"), ("1", "B")])
        self.assertEqual(play(book, "aaaa", history), [("0", "aaba"), ("10", "aaba"), ("11", "aaaa")])
        self.assertEqual(play(book, "aaaa", [("", "A")] * 5), [("", "aaaa")])

    def test_other_orders_of_the_same_cuts(self):
        tree = [("", "A"), ("0", "B"), ("01", "A"), ("1", "B"), ("10", "B")]
        for order in ([0, 3, 4, 1, 2], [0, 1, 3, 2, 4], [0, 3, 1, 4, 2]):
            history = [tree[at] for at in order]
            self.assertEqual(plain(CROSS, "aaaa", history), tree)
            self.assertEqual(play(CROSS, "aaaa", history), play(CROSS, "aaaa", tree))
        self.assertEqual([at for at, _ in play(CROSS, "aaaa", tree)], ["00", "010", "011", "100", "101", "11"])

    def test_passed_history_stays(self):
        history = [("", "A"), ("1", "B")]
        play(CROSS, "aaaa", history).clear()
        plain(CROSS, "aaaa", history).clear()
        self.assertEqual(history, [("", "A"), ("1", "B")])
        self.assertEqual(plain(history=tuple(history), start="aaaa", book=CROSS), history)

    def test_long_histories(self):
        history = [("1" * many, "A") for many in range(400)]
        self.assertEqual(len(play(CROSS, "aaaa", history)), 401)
        self.assertEqual(plain(CROSS, "aaaa", history), history)

    def test_room_ahead_of_steps(self):
        for call in (play, plain):
            for value in any_values() + ["aaac"]:
                if value != "aaaa":
                    self.assertEqual(told(raised(call, CROSS, value, None)), ("InvalidRoom", {"given": value}))
                if not isinstance(value, (list, tuple)):
                    self.assertEqual(told(raised(call, CROSS, "aaaa", value)), ("InvalidStep", {"at": -1}))

    def test_wrong_step_at_each_place(self):
        right = [("", "A"), ("1", "B"), ("10", "A")]
        wrong = any_values() + [["", "A"], ("", "C"), ("", "a"), ("", ""), ("", "AB"), ("2", "A"), (".", "A"), (0, "A"),
                                (None, "A"), ("", "A", "A"), ("",), ("1111", "A"), ([], "A"), (([],), "A"), ("0", ["A"])]
        for at in range(4):
            for value in wrong:
                if at == 0 and value == ("", "A"):
                    continue
                history = right[:at] + [value, value] + right
                for call in (play, plain):
                    self.assertEqual(told(raised(call, CROSS, "aaaa", history)), ("InvalidStep", {"at": at}), value)

    def test_address_of_a_room_that_stands_then(self):
        book = Book("ab", "A", (".", ".", ".", ".", "A", "|ab"))
        self.assertEqual(told(raised(play, book, "aaaa", [("", "A"), ("", "A")])), ("InvalidStep", {"at": 1}))
        self.assertEqual(told(raised(play, ONCE, "aaaa", [("", "A"), ("", "A")])), ("InvalidStep", {"at": 1}))
        self.assertEqual(told(raised(play, ONCE, "aaaa", [("0", "A")])), ("InvalidStep", {"at": 0}))
        self.assertEqual(told(raised(play, ONCE, "baaa", [("", "A"), ("0", "A")])), ("InvalidStep", {"at": 1}))


class Coming(unittest.TestCase):
    def test_reached(self):
        book = Book("ab", "A", (".", ".", ".", ".", "A", "|bb"))
        self.assertEqual(reached(book, "aaaa"), ["aaaa", "aaab", "abaa", "abab"])
        self.assertEqual(reached(Book("ab", "A"), "abba"), ["abba"])
        self.assertEqual(reached(ONCE, "aaaa"), ["aaaa", "aaab"])
        self.assertEqual(reached(ONCE, "baaa"), ["baaa"])

    def test_reached_against_histories(self):
        for book, start in ((CROSS, "aaaa"), (CROSS, "bbab"), (RICH, "aaaa"), (RICH, "cacb")):
            seen = set()
            for cuts in range(4):
                for history in all_histories(book, start, cuts):
                    seen.update(room for _, room in play(book, start, history))
            found = reached(book, start)
            self.assertEqual(found, sorted(set(found)))
            self.assertLessEqual(seen, set(found))
            # Nothing more than the parts of the rooms found comes from them.
            for room in found:
                for cutter in book.cutters:
                    self.assertLessEqual(set(book.parts(room, cutter)), set(found))
                self.assertIn(room, dict((one, at) for at, one in play(book, start, way_to(book, start, room))))

    def test_way_has_as_few_steps_as_possible(self):
        for book, start in ((CROSS, "aaaa"), (RICH, "aaaa"), (RICH, "abac"), (ONCE, "aaaa")):
            least = {}
            for cuts in range(4):
                for history in all_histories(book, start, cuts):
                    for _, room in play(book, start, history):
                        least.setdefault(room, cuts)
            for room, cuts in least.items():
                way = way_to(book, start, room)
                self.assertEqual(len(way), cuts)
                self.assertIn(room, [one for _, one in play(book, start, way)])

    def test_way_to_the_start_and_to_what_cannot_come(self):
        self.assertEqual(way_to(CROSS, "abab", "abab"), [])
        self.assertIsNone(way_to(ONCE, "aaaa", "bbbb"))
        self.assertIsNone(way_to(Book("ab", "A"), "aaaa", "aaab"))
        self.assertEqual(way_to(room="aaab", start="aaaa", book=ONCE), [("", "A")])

    def test_errors(self):
        for value in any_values() + ["aaac"]:
            if value != "aaaa":
                self.assertEqual(told(raised(reached, CROSS, value)), ("InvalidRoom", {"given": value}))
                self.assertEqual(told(raised(way_to, CROSS, value, None)), ("InvalidRoom", {"given": value}))
                self.assertEqual(told(raised(way_to, CROSS, "aaaa", value)), ("InvalidRoom", {"given": value}))

    def test_lists_are_new(self):
        reached(CROSS, "aaaa").clear()
        way_to(CROSS, "aaaa", "aaab").clear()
        self.assertEqual(reached(CROSS, "aaaa"), ["aaaa", "aaab", "aaba", "aabb"])
        self.assertEqual(way_to(CROSS, "aaaa", "aaab"), [("", "A")])


if __name__ == "__main__":
    unittest.main()
