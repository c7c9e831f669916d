"""Alike, Apart and compare: whether two books act alike."""

import random
import unittest

from fourwalls.alike import Alike, Apart, compare
from fourwalls.books import Book
from fourwalls.papers import Paper
from fourwalls.rooms import reached
from samples import CROSS, RICH, any_values, draw_book, draw_choice, draw_question, draw_room, raised, told

ANY = (".", ".", ".", ".")
UPRIGHT = Book("ab", "A", (*ANY, "A", "|ab"))
# Only rooms with the face b to the west are cut level, which the start is not.
LATE = Book("ab", "A", (".", ".", ".", "b", "A", "-aa"), (*ANY, "A", "|ab"))


def floor_behind(book, start, history):
    """Return the rooms by addresses and the cuts by addresses behind a history, or None if it cannot be played."""
    rooms = {"": start}
    cuts = {}
    for address, cutter in history:
        if address not in rooms:
            return None
        cut = book.cut(rooms[address], cutter)
        if cut:
            cuts[address] = cut
            parts = book.parts(rooms.pop(address), cutter)
            rooms[address + "0"], rooms[address + "1"] = parts
    return rooms, cuts


def is_apart(book, other, start, history):
    """Tell whether a history shows that two books are not alike, straight from [17]."""
    if not history:
        return False
    floors = [floor_behind(one, start, steps) for steps in (history[:-1], history) for one in (book, other)]
    return None not in floors and floors[0][1] == floors[1][1] and floors[2][1] != floors[3][1]


def distance(book, other, start):
    """Return the least number of steps behind which the floors of two books are unlike, or None."""
    known = {start}
    waiting = [start]
    steps = 0
    while waiting:
        steps += 1
        found = []
        for room in waiting:
            for cutter in book.cutters:
                if book.cut(room, cutter) != other.cut(room, cutter):
                    return steps
                for part in book.parts(room, cutter):
                    if part not in known:
                        known.add(part)
                        found.append(part)
        waiting = found
    return None


def draw_history(draw, book, other, start, most):
    """Draw a history that both books play, up to the first step behind which their floors are unlike."""
    rooms = {"": start}
    history = []
    for _ in range(most):
        address = draw.choice(sorted(rooms))
        cutter = draw.choice(book.cutters)
        history.append((address, cutter))
        if book.cut(rooms[address], cutter) != other.cut(rooms[address], cutter):
            return history
        parts = book.parts(rooms[address], cutter)
        if len(parts) == 2:
            del rooms[address]
            rooms[address + "0"], rooms[address + "1"] = parts
    return history


def bent_books(draw, book):
    """Return books that differ from one in one line, by a muted line or by a doubled one, or not at all."""
    lines = book.lines()
    found = [Book(book.faces, book.cutters, *lines)]
    for at, line in enumerate(lines):
        found.append(book.muted(at))
        place = draw.randrange(6)
        other = draw.choice("|-") + draw.choice(book.faces) + draw.choice(book.faces)
        if place < 5:
            other = draw_choice(draw, book.cutters if place == 4 else book.faces, 0.3)
        found.append(Book(book.faces, book.cutters, *lines[:at], line[:place] + (other,) + line[place + 1:], *lines[at + 1:]))
        if len(lines) < 8:
            found.append(Book(book.faces, book.cutters, *lines[:at + 1], line, *lines[at + 1:]))
            found.append(Book(book.faces, book.cutters, *lines, line))
    return found


def draw_pairs(seed, many):
    """Return drawn tuples (book, other book, start)."""
    draw = random.Random(seed)
    found = []
    while len(found) < many:
        book, start, _ = draw_question(draw, 3)
        found += [(book, other, start) for other in bent_books(draw, book)]
        found.append((book, draw_book(draw, book.faces, book.cutters, 3), start))
    return found[:many]


class Compare(unittest.TestCase):
    def test_by_hand(self):
        paper = compare(UPRIGHT, LATE, "aaaa")
        self.assertEqual((paper.told(), paper.holds(), paper.history()), ("apart", True, [("", "A"), ("1", "A")]))
        paper = compare(UPRIGHT, Book("ab", "A", (*ANY, ".", "|ab")), "aaaa")
        self.assertEqual((paper.told(), paper.holds(), paper.rooms()), ("alike", True, ["aaaa", "aaab"]))
        self.assertEqual((paper.book, paper.other, paper.start), (UPRIGHT, Book("ab", "A", (*ANY, ".", "|ab")), "aaaa"))
        # What differs in rooms that cannot come does not matter.
        other = Book("ab", "A", ("b", ".", ".", ".", "A", "-aa"), (*ANY, "A", "|ab"))
        self.assertEqual(compare(UPRIGHT, other, "aaaa").told(), "alike")
        self.assertEqual(compare(UPRIGHT, other, "baaa").history(), [("", "A")])
        self.assertEqual(compare(start="baaa", other=other, book=UPRIGHT).told(), "apart")

    def test_unlike_cuts_that_make_equal_rooms(self):
        one, other = Book("a", "A", (*ANY, "A", "|aa")), Book("a", "A", (*ANY, "A", "-aa"))
        paper = compare(one, other, "aaaa")
        self.assertEqual((paper.told(), paper.holds(), paper.history()), ("apart", True, [("", "A")]))
        self.assertIs(Alike(one, other, "aaaa", ["aaaa"]).holds(), False)

    def test_equal_cuts_by_other_cutters(self):
        one, other = Book("a", "AB", (*ANY, "A", "|aa")), Book("a", "AB", (*ANY, "B", "|aa"))
        paper = compare(one, other, "aaaa")
        self.assertEqual((paper.told(), paper.holds(), len(paper.history())), ("apart", True, 1))

    def test_drawn_books(self):
        seen = {}
        for book, other, start in draw_pairs(501, 600):
            paper = compare(book, other, start)
            steps = distance(book, other, start)
            seen[steps] = seen.get(steps, 0) + 1
            self.assertEqual((paper.book, paper.other, paper.start), (book, other, start))
            self.assertIs(paper.holds(), True)
            if steps is None:
                self.assertIsInstance(paper, Alike)
                self.assertEqual(paper.rooms(), reached(book, start))
            else:
                self.assertIsInstance(paper, Apart)
                self.assertEqual(len(paper.history()), steps)
                self.assertTrue(is_apart(book, other, start, paper.history()))
                self.assertEqual(len(compare(other, book, start).history()), steps)
                again = compare(Book.read(book.text()), Book.read(other.text()), start)
                self.assertEqual(again.history(), paper.history())
        self.assertTrue({None, 1, 2} <= set(seen))

    def test_long_histories(self):
        # Each level cut gives the second part the next face to the north, up to the last one.
        lines = [(face, ".", ".", ".", "A", f"-a{after}") for face, after in zip("abcde", "bcdef")]
        one = Book("abcdef", "AB", *lines)
        for at in range(6):
            bent = [(*ANY, "B", ""), *lines[:at], ("abcdef"[at], ".", ".", ".", "A", "|aa"), *lines[at:]]
            paper = compare(one, Book("abcdef", "AB", *bent), "aaaa")
            self.assertEqual((paper.told(), paper.holds(), len(paper.history())), ("apart", True, at + 1))
            self.assertEqual(paper.history(), [("1" * many, "A") for many in range(at + 1)])

    def test_errors_in_their_order(self):
        for value in any_values() + ["aaac", "aaa"]:
            if value != "aaaa":
                for other in (Book("abc", "A"), CROSS):
                    self.assertEqual(told(raised(compare, CROSS, other, value)), ("InvalidRoom", {"given": value}))
        for other in (Book("abc", "AB"), Book("abc", "A"), Book("a", "C"), Book("ac", "AB"), None, "ab"):
            self.assertEqual(told(raised(compare, CROSS, other, "aaaa")), ("OtherFaces", {}))
        for other in (Book("ab", "A"), Book("ab", "ABC"), Book("ab", "AC")):
            self.assertEqual(told(raised(compare, CROSS, other, "aaaa")), ("OtherCutters", {}))


class Alikes(unittest.TestCase):
    def holds(self, book, other, start, rooms):
        paper = Alike(book, other, start, rooms)
        held = paper.holds()
        self.assertIs(paper.holds(), held)
        self.assertEqual((paper.told(), paper.told(), repr(paper)), ("alike", "alike", "Paper(alike)"))
        return held

    def test_rooms_of_reached(self):
        count = {True: 0, False: 0}
        for book, other, start in draw_pairs(502, 160):
            right = distance(book, other, start) is None
            count[right] += 1
            rooms = reached(book, start)
            for list_of in (rooms, tuple(rooms), rooms[::-1], rooms + rooms[:1], rooms * 2):
                self.assertIs(self.holds(book, other, start, list_of), right)
            for at in range(min(len(rooms), 20)):
                self.assertIs(self.holds(book, other, start, rooms[:at] + rooms[at + 1:]), False)
            for wrong in ("AAAA", "aaa", "aaaaa", "", "zzzz", 1, None, True, ["aaaa"], ("aaaa",), book):
                self.assertIs(self.holds(book, other, start, rooms + [wrong]), False)
                self.assertIs(self.holds(book, other, start, [wrong] + rooms), False)
        self.assertGreater(min(count.values()), 20)

    def test_one_more_room(self):
        draw = random.Random(503)
        count = {True: 0, False: 0}
        for book, other, start in draw_pairs(504, 200):
            if distance(book, other, start) is not None:
                continue
            rooms = reached(book, start)
            more = draw_room(draw, book.faces)
            # A room that cannot come may stand in the list if it, too, is cut alike into rooms of the list.
            right = all(book.cut(more, cutter) == other.cut(more, cutter) and
                        all(part in rooms + [more] for part in book.parts(more, cutter)) for cutter in book.cutters)
            self.assertIs(self.holds(book, other, start, rooms + [more]), right)
            count[right] += more not in rooms
            whole = reached(book, more)
            right = all(book.cut(room, cutter) == other.cut(room, cutter) for room in whole for cutter in book.cutters)
            self.assertIs(self.holds(book, other, start, whole + rooms), right)
        self.assertGreater(min(count.values()), 10)

    def test_other_starts(self):
        rooms = ["aaaa", "aaab"]
        self.assertIs(self.holds(UPRIGHT, UPRIGHT, "aaab", rooms), True)
        self.assertIs(self.holds(UPRIGHT, UPRIGHT, "aaab", ["aaab"]), True)
        for start in ("aaba", "bbbb", "aaac", "aaa", "", *[value for value in any_values() if value != "aaaa"]):
            self.assertIs(self.holds(UPRIGHT, UPRIGHT, start, rooms), False)
        self.assertIs(self.holds(UPRIGHT, UPRIGHT, "aaaa", []), False)
        for value in any_values():
            self.assertIs(self.holds(UPRIGHT, UPRIGHT, "aaaa", value), False)

    def test_unlike_faces_and_cutters(self):
        rooms = ["aaaa", "aaab"]
        lines = UPRIGHT.lines()
        for other in (Book("abc", "A", *lines), Book("ab", "AB", *lines), *any_values()):
            self.assertIs(self.holds(UPRIGHT, other, "aaaa", rooms), False)
        for other in (Book("abc", "A", *lines), Book("ab", "AB", *lines)):
            self.assertIs(self.holds(other, UPRIGHT, "aaaa", rooms), False)

    def test_new_lists(self):
        rooms = ["aaaa", "aaab"]
        paper = Alike(rooms=rooms, start="aaaa", other=LATE, book=UPRIGHT)
        rooms.clear()
        paper.rooms().clear()
        self.assertEqual((paper.rooms(), paper.other, paper.book), (["aaaa", "aaab"], LATE, UPRIGHT))
        self.assertIsInstance(paper, Paper)
        for name in ("rooms", "told", "holds", "WORD"):
            self.assertIn(name, vars(Alike))
        found = compare(UPRIGHT, UPRIGHT, "aaaa")
        found.rooms().clear()
        self.assertEqual(found.rooms(), ["aaaa", "aaab"])


class Aparts(unittest.TestCase):
    def holds(self, book, other, start, history):
        paper = Apart(book, other, start, history)
        held = paper.holds()
        self.assertIs(paper.holds(), held)
        self.assertEqual((paper.told(), paper.told(), repr(paper)), ("apart", "apart", "Paper(apart)"))
        return held

    def test_drawn_histories(self):
        draw = random.Random(505)
        count = {True: 0, False: 0}
        for book, other, start in draw_pairs(506, 250):
            history = draw_history(draw, book, other, start, 9)
            right = is_apart(book, other, start, history)
            count[right] += 1
            for given in (history, tuple(history)):
                self.assertIs(self.holds(book, other, start, given), right)
            self.assertIs(self.holds(book, other, start, history[:-1]), False)
            for more in (history[-1:], [("", book.cutters[0])], [("0", book.cutters[0])], [("1", book.cutters[-1])]):
                longer = history + more
                self.assertIs(self.holds(book, other, start, longer), is_apart(book, other, start, longer))
                if right:
                    self.assertIs(self.holds(book, other, start, longer), False)
            for at, (address, cutter) in enumerate(history):
                for step in ((address + "0", cutter), (address[:-1], cutter), (address, draw.choice(book.cutters)),
                             ("2", cutter), (address, cutter.lower()), [address, cutter], (address, cutter, 1), (address,)):
                    bent = history[:at] + [step] + history[at + 1:]
                    plain = isinstance(step, tuple) and len(step) == 2 and step[1] in book.cutters
                    right_too = plain and is_apart(book, other, start, bent)
                    self.assertIs(self.holds(book, other, start, bent), right_too)
        self.assertGreater(min(count.values()), 30)

    def test_steps_that_go_away_in_both_books(self):
        one, other = Book("ab", "AB", *UPRIGHT.lines()), Book("ab", "AB", *LATE.lines())
        for history in ([("", "A"), ("1", "A")], [("", "B"), ("", "A"), ("0", "B"), ("1", "B"), ("1", "A")]):
            self.assertIs(self.holds(one, other, "aaaa", history), True)
            self.assertIs(self.holds(one, other, "aaaa", history + [("", "B")]), False)
            self.assertIs(self.holds(one, other, "aaaa", history + [("0", "B")]), False)

    def test_empty_and_equal(self):
        for other in (UPRIGHT, LATE):
            self.assertIs(self.holds(UPRIGHT, other, "aaaa", []), False)
            self.assertIs(self.holds(UPRIGHT, other, "aaaa", ()), False)
            self.assertIs(self.holds(UPRIGHT, other, "aaaa", [("", "A")]), False)
        for value in any_values():
            if value != [("", "A")]:
                self.assertIs(self.holds(UPRIGHT, LATE, "aaaa", value), False)

    def test_other_starts_faces_and_cutters(self):
        history = [("", "A"), ("1", "A")]
        self.assertIs(self.holds(UPRIGHT, LATE, "aaaa", history), True)
        for start in ("aaab", "bbbb"):
            self.assertIs(self.holds(UPRIGHT, LATE, start, history), False)
            self.assertIs(self.holds(UPRIGHT, LATE, start, history[:1]), True)
        for start in ("aaac", "aaa", "", *[value for value in any_values() if value != "aaaa"]):
            self.assertIs(self.holds(UPRIGHT, LATE, start, history), False)
        for faces, cutters in (("abc", "A"), ("ab", "AB")):
            self.assertIs(self.holds(UPRIGHT, Book(faces, cutters, *LATE.lines()), "aaaa", history), False)
            self.assertIs(self.holds(Book(faces, cutters, *UPRIGHT.lines()), LATE, "aaaa", history), False)
        for value in any_values():
            self.assertIs(self.holds(UPRIGHT, value, "aaaa", history), False)

    def test_new_lists(self):
        history = [("", "A"), ("1", "A")]
        paper = Apart(history=history, start="aaaa", other=LATE, book=UPRIGHT)
        history.clear()
        paper.history().clear()
        self.assertEqual((paper.history(), paper.other, paper.book), ([("", "A"), ("1", "A")], LATE, UPRIGHT))
        self.assertIsInstance(paper, Paper)
        for name in ("history", "told", "holds", "WORD"):
            self.assertIn(name, vars(Apart))
        found = compare(RICH, RICH.muted(1), "abab")
        found.history().clear()
        self.assertEqual(found.holds(), True)


if __name__ == "__main__":
    unittest.main()
