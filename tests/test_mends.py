"""least_mutes: which lines to mute so that a book is safe."""

import random
import unittest
from itertools import combinations

from fourwalls.books import Book
from fourwalls.kept import verdict
from fourwalls.machines import Machine
from fourwalls.mends import least_mutes
from samples import CROSS, any_values, cuts_of, draw_book, draw_machine, draw_room, named, raised, told

ANY = (".", ".", ".", ".")


def links_by_sets(book, view, machine, start):
    """Return the links of a start as a set of pairs of states, straight from [9]."""
    rooms = [start]
    for room in rooms:
        for _, how, first, second in cuts_of(book, view, room):
            rooms += [part for part in named(how, first, second) if part not in rooms]
    links = {room: {(state, machine(room, state)) for state in range(machine.size)} for room in rooms}
    changed = True
    while changed:
        changed = False
        for room in rooms:
            for _, how, first, second in cuts_of(book, view, room):
                if how == "both":
                    more = {(s, u) for s, t in links[first] for r, u in links[second] if r == t}
                else:
                    more = set().union(*[links[part] for part in named(how, first, second)])
                if not more <= links[room]:
                    links[room] |= more
                    changed = True
    return links[start]


def mutes_by_sets(book, start, view, machine):
    """Return what least_mutes returns, of all sets of lines and their own links."""
    safe = []
    for many in range(len(book) + 1):
        for lines in combinations(range(len(book)), many):
            bent = [line[:5] + ("",) if at in lines else line for at, line in enumerate(book.lines())]
            links = links_by_sets(Book(book.faces, book.cutters, *bent), view, machine, start)
            if not any(s == 0 and t in machine.bad() for s, t in links):
                safe.append(lines)
    return [lines for lines in safe if not any(set(one) < set(lines) for one in safe)]


class LeastMutes(unittest.TestCase):
    def test_by_hand(self):
        book = Book("ab", "AB", (*ANY, "A", "|ab"), (*ANY, "B", "-ba"))
        # Along the north side come aaab by A, aaba by B and aabb by both.
        self.assertEqual(least_mutes(book, "aaaa", "N", Machine.without("ab", "bb")), [(0,), (1,)])
        self.assertEqual(least_mutes(book, "aaaa", "N", Machine.without("ab", "ba")), [(0, 1)])
        self.assertEqual(least_mutes(book, "aaaa", "N", Machine.without("ab", "aba")), [(0, 1)])
        self.assertEqual(least_mutes(book, "aaaa", "N", Machine.without("ab", "baaab")), [(0,)])
        self.assertEqual(least_mutes(book, "aaaa", "N", Machine.without("ab", "aaaa")), [])
        self.assertEqual(least_mutes(book, "aaaa", "N", Machine.without("ab", "abababab")), [()])
        self.assertEqual(least_mutes(machine=Machine.without("ab", "b"), view="N", start="aaaa", book=book), [(0, 1)])

    def test_shorter_ones_first(self):
        # The face b comes by the line 0 alone, or by the line 1 and then the line 2.
        lines = [(*ANY, "A", "|ab"), (*ANY, "B", "|ac"), (".", ".", ".", "c", "C", "|bb")]
        book = Book("abc", "ABC", *lines)
        machine = Machine.without("abc", "b")
        self.assertEqual(least_mutes(book, "aaaa", "N", machine), [(0, 1), (0, 2)])
        book = Book("abc", "ABC", *lines[1:], lines[0])
        self.assertEqual(least_mutes(book, "aaaa", "N", machine), [(0, 2), (1, 2)])
        both = Book("abc", "ABC", *lines[1:])
        self.assertEqual(least_mutes(both, "aaaa", "N", machine), [(0,), (1,)])
        mixed = Book("abcd", "ABC", (*ANY, "A", "|ad"), (".", ".", ".", "d", "B", "|bb"), (".", ".", ".", "d", "C", "|bd"))
        self.assertEqual(least_mutes(mixed, "aaaa", "N", Machine.without("abcd", "b")), [(0,), (1, 2)])

    def test_all_sets_of_lines(self):
        draw = random.Random(601)
        seen = set()
        for _ in range(900):
            faces = draw.choice(("a", "ab", "ab"))
            book = draw_book(draw, faces, draw.choice(("A", "AB", "ABC")), draw.randint(0, 4), draw.choice((0.7, 0.9)))
            start, view, machine = draw_room(draw, faces), draw.choice("NESWAD"), draw_machine(draw, faces)
            if draw.random() < 0.6:
                machine = Machine.without(faces, draw.choice((start * 2, start[1:] + start[0], faces[-1] * 5)))
            found = least_mutes(book, start, view, machine)
            self.assertEqual(found, mutes_by_sets(book, start, view, machine))
            self.assertEqual(found == [()], verdict(book, start, view, machine).WORD == "safe")
            seen.add(tuple(len(lines) for lines in found))
            for lines in found:
                self.assertEqual(verdict(book.muted(*lines), start, view, machine).WORD, "safe")
                for at in range(len(lines)):
                    fewer = book.muted(*lines[:at], *lines[at + 1:])
                    self.assertEqual(verdict(fewer, start, view, machine).WORD, "broken")
        self.assertTrue({(), (0,), (1,), (2,), (1, 1)} <= seen)

    def test_eight_lines(self):
        draw = random.Random(602)
        seen = set()
        for _ in range(25):
            book = draw_book(draw, "ab", "ABCD", 8, 0.6)
            start, view, machine = draw_room(draw, "ab"), draw.choice("NESWAD"), draw_machine(draw, "ab", 4)
            found = least_mutes(book, start, view, machine)
            self.assertEqual(found, mutes_by_sets(book, start, view, machine))
            seen.add(len(found))
        self.assertGreater(len(seen), 1)
        lines = [(*ANY, cutter, f"{sign}ab") for cutter in "ABCD" for sign in "|-"]
        self.assertEqual(least_mutes(Book("ab", "ABCD", *lines), "aaaa", "N", Machine.without("ab", "b")), [(0, 2, 4, 6)])
        lines = [(*ANY, cutter, "|ab") for cutter in "ABCD"] + [("b", ".", ".", ".", ".", "-bb")] * 4
        self.assertEqual(least_mutes(Book("ab", "ABCD", *lines), "aaaa", "N", Machine.without("ab", "b")), [(0, 1, 2, 3)])

    def test_new_list(self):
        machine = Machine.without("ab", "bb")
        least_mutes(CROSS, "aaaa", "N", machine).clear()
        self.assertEqual(least_mutes(CROSS, "aaaa", "N", machine), [(0,), (1,)])

    def test_errors_in_their_order(self):
        other = Machine("a", [(0,)])
        for value in any_values() + ["aaac", "aaa"]:
            if value != "aaaa":
                self.assertEqual(told(raised(least_mutes, CROSS, value, "X", other)), ("InvalidRoom", {"given": value}))
        for value in any_values() + ["n", "NE", "X"]:
            if value not in ("A",):
                self.assertEqual(told(raised(least_mutes, CROSS, "aaaa", value, other)), ("InvalidView", {"given": value}))
        for machine in (other, Machine("abc", [(0, 0, 0)])):
            self.assertEqual(told(raised(least_mutes, CROSS, "aaaa", "A", machine)), ("OtherFaces", {}))


if __name__ == "__main__":
    unittest.main()
