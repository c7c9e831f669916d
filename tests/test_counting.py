"""trees_of, histories_of, grid_trees and most_rooms."""

import random
import unittest
from functools import lru_cache
from math import comb, factorial

from fourwalls.books import Book
from fourwalls.counting import grid_trees, histories_of, most_rooms, trees_of
from samples import CROSS, RICH, all_histories, any_values, draw_question, raised, told

ANY = (".", ".", ".", ".")
ONE = Book("a", "A", (*ANY, "A", "|aa"))
ALL = Book("ab", "ABC", (*ANY, "A", "|ab"), (*ANY, "B", "-ba"), (*ANY, "C", "|bb"))
BOTH = Book("a", "AB", (*ANY, "A", "|aa"), (*ANY, "B", "-aa"))


def count_orders(book, start, cuts):
    """Return the number of histories with this number of cuts and no other steps, made one by one."""
    def grow(standing, left):
        if left == 0:
            return 1
        total = 0
        for address, room in standing.items():
            for cutter in book.cutters:
                parts = book.parts(room, cutter)
                if len(parts) == 2:
                    rest = {one: other for one, other in standing.items() if one != address}
                    total += grow({**rest, address + "0": parts[0], address + "1": parts[1]}, left - 1)
        return total
    return grow({"": start}, cuts)


def summed(book, start, cuts, ordered):
    """Return the number of trees, or of histories, by sums over the cuts of the first part."""
    @lru_cache(None)
    def count(room, left):
        if left == 0:
            return 1
        total = 0
        for cutter in book.cutters:
            parts = book.parts(room, cutter)
            if len(parts) == 2:
                for many in range(left):
                    orders = comb(left - 1, many) if ordered else 1
                    total += orders * count(parts[0], many) * count(parts[1], left - 1 - many)
        return total
    return count(start, cuts)


def grid_floors(book, start, wide, high):
    """Return all pairs of a plain history and whole places, as sorted tuples, with the numbers of rooms; one by one."""
    found = {}
    waiting = [((), {"": (start, 0, 0, wide, high)})]
    while waiting:
        steps, standing = waiting.pop()
        if steps in found:
            continue
        found[steps] = len(standing)
        for address, (room, west, north, east, south) in standing.items():
            for cutter in book.cutters:
                cut = book.cut(room, cutter)
                if not cut:
                    continue
                near, far = (west, east) if cut[0] == "|" else (north, south)
                for at in range(near + 1, far):
                    one, other = (west, north, east, south), (west, north, east, south)
                    if cut[0] == "|":
                        one, other = (west, north, at, south), (at, north, east, south)
                    else:
                        one, other = (west, north, east, at), (west, at, east, south)
                    rest = {k: v for k, v in standing.items() if k != address}
                    for index, box in enumerate((one, other)):
                        rest[address + str(index)] = (book.parts(room, cutter)[index], *box)
                    waiting.append((tuple(sorted(steps + ((address, cutter, at),))), rest))
    return found


def grid_sums(book, start, wide, high):
    """Return the number of trees with whole places and the greatest number of rooms, by sums over parts."""
    @lru_cache(None)
    def count(room, width, height):
        total, most = 1, 1
        for cutter in book.cutters:
            cut = book.cut(room, cutter)
            if cut:
                first, second = book.parts(room, cutter)
                for at in range(1, width if cut[0] == "|" else height):
                    sizes = ((at, height), (width - at, height)) if cut[0] == "|" else ((width, at), (width, height - at))
                    one, other = count(first, *sizes[0]), count(second, *sizes[1])
                    total += one[0] * other[0]
                    most = max(most, one[1] + other[1])
        return total, most
    return count(start, wide, high)


class Histories(unittest.TestCase):
    def test_by_hand(self):
        self.assertEqual([trees_of(ONE, "aaaa", cuts) for cuts in range(8)], [1, 1, 2, 5, 14, 42, 132, 429])
        self.assertEqual([histories_of(ONE, "aaaa", cuts) for cuts in range(7)], [1, 1, 2, 6, 24, 120, 720])
        once = Book("ab", "A", ("a", ".", "a", "a", "A", "|bb"))
        # The east part has the new face b on its west side, so the west part alone can be cut again.
        self.assertEqual([trees_of(once, "aaaa", cuts) for cuts in range(4)], [1, 1, 1, 1])
        self.assertEqual(trees_of(cuts=2, start="aaaa", book=ONE), 2)
        self.assertEqual(histories_of(cuts=3, start="aaaa", book=ONE), 6)

    def test_no_cuts(self):
        for book, start in ((ONE, "aaaa"), (RICH, "abca"), (Book("ab", "A"), "abab")):
            self.assertEqual((trees_of(book, start, 0), histories_of(book, start, 0)), (1, 1))
        for cuts in (1, 2, 30):
            self.assertEqual((trees_of(Book("ab", "A"), "abab", cuts), histories_of(Book("ab", "A"), "abab", cuts)), (0, 0))

    def test_cutters_count_and_those_that_go_away_do_not(self):
        one = (*ANY, "A", "|aa")
        for lines, trees in (((one,), 1), ((one, (*ANY, "B", "|aa")), 2), ((one, (*ANY, "B", "")), 1),
                             (((*ANY, "AB", "|aa"),), 2), (((*ANY, ".", ""), one), 0)):
            book = Book("a", "AB", *lines)
            self.assertEqual(trees_of(book, "aaaa", 1), trees)
            self.assertEqual(trees_of(book, "aaaa", 3), 5 * trees ** 3)
            self.assertEqual(histories_of(book, "aaaa", 3), 6 * trees ** 3)

    def test_against_a_listing(self):
        draw = random.Random(201)
        seen = set()
        for _ in range(80):
            book, start, _ = draw_question(draw, 3)
            for cuts in range(4):
                trees = len(all_histories(book, start, cuts))
                self.assertEqual(trees_of(book, start, cuts), trees)
                seen.add(trees)
                if trees < 1500:
                    self.assertEqual(histories_of(book, start, cuts), count_orders(book, start, cuts))
        self.assertGreater(len(seen), 20)

    def test_against_sums(self):
        draw = random.Random(202)
        for _ in range(60):
            book, start, _ = draw_question(draw, 3)
            for cuts in range(9):
                self.assertEqual(trees_of(book, start, cuts), summed(book, start, cuts, False))
                self.assertEqual(histories_of(book, start, cuts), summed(book, start, cuts, True))

    def test_thirty_cuts_where_everything_is_cut(self):
        for book, start, cutters in ((ONE, "aaaa", 1), (BOTH, "aaaa", 2), (ALL, "abab", 3)):
            self.assertEqual(trees_of(book, start, 30), cutters ** 30 * comb(60, 30) // 31)
            self.assertEqual(histories_of(book, start, 30), cutters ** 30 * factorial(30))
        self.assertEqual(trees_of(RICH, "abca", 30), summed(RICH, "abca", 30, False))

    def test_errors(self):
        for call in (trees_of, histories_of):
            for value in any_values() + ["aaac", "aaa"]:
                if value != "aaaa":
                    self.assertEqual(told(raised(call, CROSS, value, None)), ("InvalidRoom", {"given": value}))
            for value in any_values() + [31, 32, 1000]:
                if value not in (0, 1, 2) or isinstance(value, bool):
                    self.assertEqual(told(raised(call, CROSS, "aaaa", value)), ("InvalidNumber", {"given": value}))


class Grids(unittest.TestCase):
    def test_one_row_and_one_column_by_hand(self):
        self.assertEqual([grid_trees(ONE, "aaaa", wide, 1) for wide in range(1, 6)], [1, 2, 5, 15, 51])
        self.assertEqual([grid_trees(ONE, "aaaa", 1, high) for high in range(1, 6)], [1, 1, 1, 1, 1])
        self.assertEqual([most_rooms(ONE, "aaaa", wide, 1) for wide in range(1, 9)], list(range(1, 9)))
        self.assertEqual([most_rooms(ONE, "aaaa", 1, high) for high in range(1, 9)], [1] * 8)
        level = Book("a", "A", (*ANY, "A", "-aa"))
        self.assertEqual([grid_trees(level, "aaaa", 1, high) for high in range(1, 6)], [1, 2, 5, 15, 51])
        self.assertEqual(most_rooms(level, "aaaa", 1, 8), 8)
        self.assertEqual(most_rooms(level, "aaaa", 8, 1), 1)
        self.assertEqual((grid_trees(Book("a", "A"), "aaaa", 8, 8), most_rooms(Book("a", "A"), "aaaa", 8, 8)), (1, 1))

    def test_small_and_great_sizes(self):
        for book in (ONE, BOTH, CROSS, ALL):
            self.assertEqual((grid_trees(book, "aaaa", 1, 1), most_rooms(book, "aaaa", 1, 1)), (1, 1))
            self.assertEqual((grid_trees(book, "aaaa", 8, 8), most_rooms(book, "aaaa", 8, 8)), grid_sums(book, "aaaa", 8, 8))
        self.assertEqual(most_rooms(BOTH, "aaaa", 8, 8), 64)
        self.assertEqual(grid_trees(BOTH, "aaaa", 2, 2), 1 + 2 * 4)
        book = Book("ab", "AB", (".", ".", "a", ".", "A", "-bb"), (".", ".", "a", ".", "B", "|aa"))
        self.assertEqual((most_rooms(book, "aaaa", 8, 1), most_rooms(book, "aaaa", 1, 8), most_rooms(book, "aaab", 2, 2)),
                         (8, 8, 4))
        self.assertEqual(grid_trees(high=3, wide=2, start="aaaa", book=CROSS), grid_sums(CROSS, "aaaa", 2, 3)[0])
        self.assertEqual(most_rooms(high=3, wide=2, start="aaaa", book=CROSS), 6)

    def test_against_a_listing(self):
        draw = random.Random(203)
        for _ in range(40):
            book, start, _ = draw_question(draw, 2)
            for wide, high in ((1, 3), (2, 2), (3, 1), (3, 2)):
                if grid_sums(book, start, wide, high)[0] < 3000:
                    found = grid_floors(book, start, wide, high)
                    self.assertEqual(grid_trees(book, start, wide, high), len(found))
                    self.assertEqual(most_rooms(book, start, wide, high), max(found.values()))

    def test_against_sums(self):
        draw = random.Random(204)
        seen = set()
        for _ in range(60):
            book, start, _ = draw_question(draw, 4)
            for wide in range(1, 5):
                for high in range(1, 5):
                    both = grid_trees(book, start, wide, high), most_rooms(book, start, wide, high)
                    self.assertEqual(both, grid_sums(book, start, wide, high))
                    seen.add(both[1])
        self.assertGreater(len(seen), 9)

    def test_errors_in_their_order(self):
        for call in (grid_trees, most_rooms):
            for value in any_values() + ["aaac", "aaa"]:
                if value != "aaaa":
                    self.assertEqual(told(raised(call, CROSS, value, None, None)), ("InvalidRoom", {"given": value}))
            for value in any_values() + [9, 10, 12]:
                if value not in (1, 2) or isinstance(value, bool):
                    self.assertEqual(told(raised(call, CROSS, "aaaa", value, None)), ("InvalidNumber", {"given": value}))
                    self.assertEqual(told(raised(call, CROSS, "aaaa", 8, value)), ("InvalidNumber", {"given": value}))
            for value in (True, False):
                self.assertIs(raised(call, CROSS, "aaaa", value, 9).given, value)
                self.assertIs(raised(call, CROSS, "aaaa", 1, value).given, value)


if __name__ == "__main__":
    unittest.main()
