"""Back, Come and Barred: whether a told plan can come."""

import random
import unittest
from math import comb, factorial

from fourwalls.back import Back, Barred, Come
from fourwalls.books import Book
from fourwalls.grids import Plan
from fourwalls.papers import Paper
from samples import CROSS, any_values, draw_book, draw_room, raised, told
from test_grids import boxes_in, draw_rooms, made_by

ANY = (".", ".", ".", ".")
UPRIGHT = Book("ab", "A", (*ANY, "A", "|ab"))
BOTH = Book("a", "AB", (*ANY, "A", "|aa"), (*ANY, "B", "-aa"))
ROW = Plan("ab", 3, 1, [(0, 0, 1, 1, "aaaa"), (1, 0, 2, 1, "aaab"), (2, 0, 3, 1, "aaab")])
WINDMILL = Plan("a", 3, 3, [box + ("aaaa",) for box in (
    (0, 0, 2, 1), (2, 0, 3, 2), (1, 2, 3, 3), (0, 1, 1, 3), (1, 1, 2, 2))])


def equal_rooms(many, down):
    """Return a row or a column of equal rooms."""
    if down:
        return Plan("a", 1, many, [(0, at, 1, at + 1, "aaaa") for at in range(many)])
    return Plan("a", many, 1, [(at, 0, at + 1, 1, "aaaa") for at in range(many)])


def cut_out(draw, book, start, wide, high, most):
    """Draw up to so many cuts at whole places; return the told rooms, and the placed steps."""
    standing = {"": (0, 0, wide, high, start)}
    steps = []
    for _ in range(most):
        address = draw.choice(sorted(standing))
        west, north, east, south, room = standing[address]
        cutter = draw.choice(book.cutters)
        cut = book.cut(room, cutter)
        near, far = (west, east) if cut[:1] == "|" else (north, south)
        if not cut or far - near < 2:
            continue
        at = draw.randint(near + 1, far - 1)
        first, second = book.parts(room, cutter)
        del standing[address]
        if cut[0] == "|":
            standing[address + "0"] = (west, north, at, south, first)
            standing[address + "1"] = (at, north, east, south, second)
        else:
            standing[address + "0"] = (west, north, east, at, first)
            standing[address + "1"] = (west, at, east, south, second)
        steps.append((address, cutter, at - near, far - near))
    return sorted(standing.values()), steps


def halves(box):
    """Return the tuples (sign, place, first, second) of the ways to part a rectangle."""
    west, north, east, south = box
    found = [("|", at, (west, north, at, south), (at, north, east, south)) for at in range(west + 1, east)]
    return found + [("-", at, (west, north, east, at), (west, at, east, south)) for at in range(north + 1, south)]


def born_of(book, rooms, wide, high):
    """Return a dict by the born rectangles of the rooms they make, straight from [16]."""
    boxes = {room[:4]: room[4] for room in rooms}
    born = dict(boxes)
    changed = True
    while changed:
        changed = False
        for box in boxes_in(wide, high):
            room = made_by(rooms, box)
            if box in born or room is None:
                continue
            for sign, _, first, second in halves(box):
                if first in born and second in born:
                    parts = [born[first], born[second]]
                    if any(book.cut(room, one)[:1] == sign and book.parts(room, one) == parts for one in book.cutters):
                        born[box] = room
                        changed = True
    return born


def all_ways(book, start, plan):
    """Return all histories with whole places that lead to a plan, made one by one, as lists of (address, cutter, at)."""
    found = []
    told = {room[:4]: room[4] for room in plan.rooms()}

    def grow(steps, standing):
        if all(told.get(box) == room for box, room in standing.values()):
            found.append(steps)
            return
        if len(standing) >= len(told):
            return
        for address, (box, room) in standing.items():
            for cutter in book.cutters:
                for sign, at, first, second in halves(box):
                    if book.cut(room, cutter)[:1] == sign:
                        parts = book.parts(room, cutter)
                        rest = {one: other for one, other in standing.items() if one != address}
                        rest.update({address + "0": (first, parts[0]), address + "1": (second, parts[1])})
                        grow(steps + [(address, cutter, sign, at)], rest)
    grow([], {"": (plan.whole(), start)})
    return found


class Backs(unittest.TestCase):
    def test_example(self):
        back = Back(plan=ROW, start="aaaa", book=UPRIGHT)
        self.assertEqual((back.comes(), back.trees(), back.histories()), (True, 2, 2))
        self.assertEqual(back.first_cuts(), [("|", 1, "A"), ("|", 2, "A")])
        self.assertEqual(back.born(), [(0, 0, 1, 1), (0, 0, 2, 1), (0, 0, 3, 1), (1, 0, 2, 1), (1, 0, 3, 1), (2, 0, 3, 1)])
        self.assertEqual((back.book, back.start, back.plan), (UPRIGHT, "aaaa", ROW))
        self.assertEqual((len(back), bool(back), repr(back)), (3, True, "Back(3 rooms)"))
        for name in ("born", "comes", "trees", "histories", "first_cuts", "paper", "__len__", "__repr__"):
            self.assertIn(name, vars(Back))

    def test_whole_floor(self):
        plan = Plan("ab", 4, 5, [(0, 0, 4, 5, "abab")])
        back = Back(CROSS, "abab", plan)
        self.assertEqual((back.born(), back.comes(), back.trees(), back.histories(), back.first_cuts()),
                         ([(0, 0, 4, 5)], True, 1, 1, []))
        self.assertEqual((back.paper().told(), back.paper().steps(), back.paper().holds(), repr(back)),
                         ("come", [], True, "Back(1 rooms)"))
        back = Back(CROSS, "aaaa", plan)
        self.assertEqual((back.born(), back.comes(), back.trees(), back.histories(), back.first_cuts()),
                         ([(0, 0, 4, 5)], False, 0, 0, []))
        self.assertEqual((back.paper().told(), back.paper().boxes(), back.paper().holds()), ("barred", [(0, 0, 4, 5)], True))

    def test_new_lists(self):
        back = Back(UPRIGHT, "aaaa", ROW)
        for _ in range(2):
            back.born().clear()
            back.first_cuts().clear()
            back.paper().steps().clear()
            self.assertEqual((len(back.born()), len(back.first_cuts()), len(back.paper().steps())), (6, 2, 2))

    def test_plans_of_drawn_cuts(self):
        draw = random.Random(401)
        comes = {True: 0, False: 0}
        for _ in range(220):
            faces = draw.choice(("a", "ab", "abc"))
            book = draw_book(draw, faces, "AB", draw.randint(1, 5))
            start = draw_room(draw, faces)
            wide, high = draw.randint(1, 6), draw.randint(1, 6)
            rooms, steps = cut_out(draw, book, start, wide, high, draw.randint(0, 14))
            plan = Plan(faces, wide, high, rooms)
            self.check(book, start, plan, True)
            self.assertIs(Come(book, start, plan, steps).holds(), True)
            at = draw.randrange(len(rooms))
            place = draw.randrange(4)
            room = rooms[at][4]
            other = room[:place] + draw.choice(faces) + room[place + 1:]
            bent = Plan(faces, wide, high, rooms[:at] + [(*rooms[at][:4], other)] + rooms[at + 1:])
            comes[self.check(book, start, bent, None)] += 1
        self.assertGreater(min(comes.values()), 50)

    def check(self, book, start, plan, expected):
        """Compare a Back with [16] and its paper with what it says; return whether the plan can come."""
        back = Back(book, start, plan)
        born = born_of(book, plan.rooms(), plan.wide, plan.high)
        comes = born.get(plan.whole()) == start
        self.assertIn(expected, (None, comes))
        self.assertEqual((back.born(), back.comes()), (sorted(born), comes))
        self.assertIs(back.comes(), comes)
        self.assertEqual((back.trees() > 0, back.histories() > 0), (comes, comes))
        paper = back.paper()
        self.assertIsInstance(paper, Come if comes else Barred)
        self.assertEqual((paper.book, paper.start, paper.plan), (book, start, plan))
        self.assertIs(paper.holds(), True)
        if comes:
            self.assertEqual(len(paper.steps()), len(plan) - 1)
            self.assertIs(Barred(book, start, plan, back.born()).holds(), False)
            again = Back(Book.read(book.text()), start, Plan(plan.faces, plan.wide, plan.high, plan.rooms()[::-1]))
            self.assertEqual(again.paper().steps(), paper.steps())
        else:
            self.assertEqual(paper.boxes(), back.born())
        return comes

    def test_against_a_listing(self):
        draw = random.Random(402)
        seen = set()
        for _ in range(150):
            faces = draw.choice(("a", "ab"))
            book = draw.choice((BOTH, draw_book(draw, faces, "AB", 3, 0.9), draw_book(draw, faces, "ABC", 5, 0.9)))
            faces = book.faces
            start = draw_room(draw, faces)
            wide, high = draw.choice(((1, 4), (2, 2), (3, 2), (2, 3), (5, 1), (4, 2), (3, 3)))
            rooms, _ = cut_out(draw, book, start, wide, high, draw.randint(0, 9))
            plan = Plan(faces, wide, high, draw.choice((rooms, rooms, draw_rooms(draw, faces, wide, high, 0.6))))
            if len(plan) > 5:
                continue
            ways = all_ways(book, start, plan)
            back = Back(book, start, plan)
            self.assertEqual(back.comes(), len(ways) > 0)
            self.assertEqual(back.histories(), len(ways))
            self.assertEqual(back.trees(), len({tuple(sorted(way)) for way in ways}))
            first = {(way[0][2], way[0][3], way[0][1]) for way in ways if way}
            self.assertEqual(back.first_cuts(), sorted(first))
            seen.add((len(ways), back.trees()))
        self.assertGreater(len(seen), 8)

    def test_equal_rooms(self):
        for many in range(1, 13):
            catalan = comb(2 * many - 2, many - 1) // many
            for plan, sign, cutter in ((equal_rooms(many, False), "|", "A"), (equal_rooms(many, True), "-", "B")):
                back = Back(BOTH, "aaaa", plan)
                self.assertEqual((back.comes(), back.trees(), back.histories()), (True, catalan, factorial(many - 1)))
                self.assertEqual(back.first_cuts(), [(sign, at, cutter) for at in range(1, many)])
                self.assertEqual((len(back.born()), back.paper().holds()), (many * (many + 1) // 2, True))
        twice = Book("a", "ABC", (*ANY, ".", "|aa"))
        back = Back(twice, "aaaa", equal_rooms(4, False))
        self.assertEqual((back.trees(), back.histories()), (5 * 27, 6 * 27))
        self.assertEqual(back.first_cuts(), [("|", at, cutter) for at in (1, 2, 3) for cutter in "ABC"])

    def test_square_of_equal_rooms(self):
        plan = Plan("a", 2, 2, [(x, y, x + 1, y + 1, "aaaa") for x in (0, 1) for y in (0, 1)])
        back = Back(BOTH, "aaaa", plan)
        self.assertEqual((back.trees(), back.histories(), back.first_cuts()), (2, 4, [("-", 1, "B"), ("|", 1, "A")]))
        great = Plan("a", 12, 12, [(x, y, x + 1, y + 1, "aaaa") for x in range(12) for y in range(12)])
        back = Back(BOTH, "aaaa", great)
        self.assertEqual((back.comes(), len(back), len(back.born()), back.paper().holds()), (True, 144, 78 * 78, True))

    def test_plans_that_come_by_no_history(self):
        back = Back(BOTH, "aaaa", WINDMILL)
        self.assertEqual((back.comes(), back.trees(), back.histories(), back.first_cuts()), (False, 0, 0, []))
        self.assertEqual(back.born(), sorted(room[:4] for room in WINDMILL.rooms()))
        self.assertEqual((back.paper().told(), back.paper().holds()), ("barred", True))
        for start in ("aaab", "abab", "bbbb"):
            back = Back(UPRIGHT, start, ROW)
            self.assertEqual((back.comes(), back.trees(), back.histories(), back.first_cuts()), (False, 0, 0, []))
            self.assertEqual(len(back.born()), 6)
        self.assertIs(Back(Book("ab", "A"), "aaaa", ROW).comes(), False)

    def test_errors_in_their_order(self):
        for value in any_values() + ["aaac", "aaa"]:
            if value != "aaaa":
                self.assertEqual(told(raised(Back, CROSS, value, WINDMILL)), ("InvalidRoom", {"given": value}))
        for plan in (WINDMILL, Plan("abc", 1, 1, [(0, 0, 1, 1, "aaaa")])):
            self.assertEqual(told(raised(Back, CROSS, "aaaa", plan)), ("OtherFaces", {}))


class Comes(unittest.TestCase):
    STEPS = [("", "A", 1, 3), ("1", "B", 1, 2), ("11", "A", 3, 4)]
    ROOMS = [(0, 0, 2, 4, "aaaa"), (2, 0, 6, 2, "aabb"), (2, 2, 5, 4, "aaab"), (5, 2, 6, 4, "aaab")]

    def plan(self, faces="ab", wide=6, high=4):
        return Plan(faces, wide, high, self.ROOMS)

    def holds(self, steps, book=CROSS, start="aaaa", plan=None):
        paper = Come(book, start, plan or self.plan(), steps)
        held = paper.holds()
        self.assertIs(paper.holds(), held)
        self.assertEqual((paper.told(), paper.told(), repr(paper)), ("come", "come", "Paper(come)"))
        return held

    def test_right_steps(self):
        self.assertIs(self.holds(self.STEPS), True)
        self.assertIs(self.holds(tuple(self.STEPS)), True)
        # The steps may have other numbers for the same places.
        self.assertIs(self.holds([("", "A", 2, 6), ("1", "B", 5, 10), ("11", "A", 300000000000000, 400000000000000)]), True)
        paper = Come(steps=self.STEPS, plan=self.plan(), start="aaaa", book=CROSS)
        self.assertEqual((paper.steps(), paper.plan, isinstance(paper, Paper)), (self.STEPS, self.plan(), True))
        paper.steps().clear()
        self.assertEqual(paper.steps(), self.STEPS)
        for name in ("steps", "told", "holds", "WORD"):
            self.assertIn(name, vars(Come))

    def test_cutters_that_go_away(self):
        book = Book("ab", "ABC", *CROSS.lines())
        for at, address in ((0, ""), (1, "0"), (1, "1"), (2, "10"), (3, "110"), (3, "0")):
            self.assertIs(self.holds(self.STEPS[:at] + [(address, "C", 1, 2)] + self.STEPS[at:], book), True)

    def test_other_orders(self):
        draw = random.Random(403)
        for _ in range(60):
            book = draw_book(draw, "ab", "AB", 4)
            start = draw_room(draw, "ab")
            wide, high = draw.randint(2, 6), draw.randint(2, 6)
            rooms, steps = cut_out(draw, book, start, wide, high, 12)
            plan = Plan("ab", wide, high, rooms)
            for _ in range(4):
                left = list(steps)
                order = []
                while left:
                    ready = [step for step in left if not any(other[0] != step[0] and step[0].startswith(other[0])
                                                              for other in left)]
                    order.append(draw.choice(ready))
                    left.remove(order[-1])
                self.assertIs(Come(book, start, plan, order).holds(), True)
                if order:
                    self.assertIs(Come(book, start, plan, order[:-1]).holds(), False)

    def test_one_step_bent(self):
        bent = [(0, ("0", "A", 1, 3)), (0, ("", "B", 1, 3)), (0, ("", "A", 2, 3)), (0, ("", "A", 1, 4)), (0, ("", "A", 1, 2)),
                (1, ("0", "B", 1, 2)), (1, ("1", "A", 1, 2)), (1, ("1", "B", 1, 3)), (2, ("10", "A", 3, 4)), (2, ("11", "B", 3, 4)),
                (2, ("11", "A", 1, 4)), (2, ("11", "A", 3, 5)), (2, ("1", "A", 3, 4)), (2, ("111", "A", 3, 4)),
                (0, ("", "A", True, 3)), (0, ("", "A", 3, 3)), (0, ("", "C", 1, 3)), (0, ["", "A", 1, 3])]
        for at, step in bent:
            self.assertIs(self.holds(self.STEPS[:at] + [step] + self.STEPS[at + 1:]), False, step)
        for at in range(3):
            self.assertIs(self.holds(self.STEPS[:at] + self.STEPS[at + 1:]), False)
            self.assertIs(self.holds(self.STEPS[:at] + [self.STEPS[at]] + self.STEPS[at:]), False)
        for more in (("0", "A", 1, 2), ("110", "B", 1, 2)):
            self.assertIs(self.holds(self.STEPS + [more]), False)
        for value in any_values():
            self.assertIs(self.holds(value), False)
            self.assertIs(self.holds(self.STEPS + [value]), False)

    def test_other_plans_starts_and_books(self):
        for start in ("aaab", "abaa", "aaac", "aaa", "", None, 1, ["aaaa"], ("aaaa",)):
            self.assertIs(self.holds(self.STEPS, start=start), False)
        bent = [self.ROOMS[:3] + [(5, 2, 6, 4, "aaaa")], self.ROOMS[:1] + [(2, 0, 6, 4, "aaab")],
                self.ROOMS[:2] + [(2, 2, 4, 4, "aaab"), (4, 2, 6, 4, "aaab")],
                self.ROOMS[:1] + [(2, 0, 6, 3, "aabb"), (2, 3, 5, 4, "aaab"), (5, 3, 6, 4, "aaab")]]
        for rooms in bent:
            self.assertIs(self.holds(self.STEPS, plan=Plan("ab", 6, 4, rooms)), False)
        self.assertIs(self.holds(self.STEPS, plan=self.plan("abc")), False)
        self.assertIs(self.holds(self.STEPS, Book("abc", "AB", *CROSS.lines())), False)
        self.assertIs(self.holds(self.STEPS, Book("abc", "AB", *CROSS.lines()), plan=self.plan("abc")), True)
        self.assertIs(self.holds(self.STEPS, CROSS.muted(1)), False)
        # The same floor, told in other numbers.
        double = [tuple(2 * one for one in room[:4]) + (room[4],) for room in self.ROOMS]
        self.assertIs(self.holds(self.STEPS, plan=Plan("ab", 12, 8, double)), True)
        # A floor whose cuts do not all lie at whole places of the plan.
        self.assertIs(self.holds([("", "A", 2, 5)], plan=Plan("ab", 3, 1, [(0, 0, 1, 1, "aaaa"), (1, 0, 3, 1, "aaab")])), False)
        for value in any_values():
            self.assertIs(Come(CROSS, "aaaa", value, self.STEPS).holds(), False)


class Bars(unittest.TestCase):
    def holds(self, book, start, plan, boxes):
        paper = Barred(book, start, plan, boxes)
        held = paper.holds()
        self.assertIs(paper.holds(), held)
        self.assertEqual((paper.told(), paper.told(), repr(paper)), ("barred", "barred", "Paper(barred)"))
        return held

    def barred_plans(self):
        """Return tuples (book, start, plan, born) of plans that cannot come."""
        draw = random.Random(404)
        found = [(BOTH, "aaaa", WINDMILL, Back(BOTH, "aaaa", WINDMILL).born())]
        while len(found) < 40:
            book = draw_book(draw, "ab", "AB", 4)
            start = draw_room(draw, "ab")
            wide, high = draw.randint(1, 4), draw.randint(1, 4)
            rooms, _ = cut_out(draw, book, start, wide, high, 9)
            if draw.random() < 0.7:
                at = draw.randrange(len(rooms))
                rooms[at] = rooms[at][:4] + (draw_room(draw, "ab"),)
            else:
                start = draw_room(draw, "ab")
            back = Back(book, start, Plan("ab", wide, high, rooms))
            if not back.comes():
                found.append((book, start, back.plan, back.born()))
        return found

    def test_right_lists(self):
        for book, start, plan, born in self.barred_plans():
            for boxes in (born, tuple(born), born[::-1], born + born[:1], born * 2):
                self.assertIs(self.holds(book, start, plan, boxes), True)
            paper = Barred(boxes=born, plan=plan, start=start, book=book)
            self.assertEqual((paper.boxes(), paper.plan, isinstance(paper, Paper)), (born, plan, True))
            paper.boxes().clear()
            self.assertEqual(paper.boxes(), born)
        for name in ("boxes", "told", "holds", "WORD"):
            self.assertIn(name, vars(Barred))

    def test_all_rectangles(self):
        told = {True: 0, False: 0}
        for book, start, plan, _ in self.barred_plans():
            boxes = boxes_in(plan.wide, plan.high)
            right = plan.room_of(plan.whole()) != start
            self.assertIs(self.holds(book, start, plan, boxes), right)
            told[right] += 1
        self.assertIs(self.holds(BOTH, "aaaa", WINDMILL, boxes_in(3, 3)), False)
        # Without the whole rectangle the list is closed, as no two others of it make it up.
        self.assertIs(self.holds(BOTH, "aaaa", WINDMILL, [box for box in boxes_in(3, 3) if box != (0, 0, 3, 3)]), True)
        self.assertGreater(min(told.values()), 1)

    def test_one_left_out(self):
        for book, start, plan, born in self.barred_plans():
            for at in range(len(born)):
                self.assertIs(self.holds(book, start, plan, born[:at] + born[at + 1:]), False)
            self.assertIs(self.holds(book, start, plan, []), False)

    def test_items_that_are_no_rectangles(self):
        for book, start, plan, born in self.barred_plans()[:12]:
            wide, high = plan.wide, plan.high
            for box in ((0, 0, wide + 1, high), (0, 0, wide, high + 1), (-1, 0, wide, high), (0, 0, 0, 1), (0, 0, 1, 0),
                        (wide, 0, wide + 1, 1), (0, high, 1, high + 1), (False, 0, 1, 1), (0, 0, True, 1), (0, 0, 1, True),
                        [0, 0, 1, 1], (0, 0, 1), (0, 0, 1, 1, "aaaa"), ((0, 0, 1, 1),), *any_values()):
                self.assertIs(self.holds(book, start, plan, born + [box]), False, box)
                self.assertIs(self.holds(book, start, plan, [box] + born), False, box)
            for at, box in enumerate(born):
                bent = tuple(True if one == 1 else one for one in box)
                if 1 in box:
                    self.assertIs(self.holds(book, start, plan, born[:at] + [bent] + born[at + 1:]), False, bent)
            for value in any_values():
                self.assertIs(self.holds(book, start, plan, value), False)

    def test_other_starts_and_plans(self):
        for book, start, plan, born in self.barred_plans():
            for other in ("aaaa", "abab", "bbbb", "aabb") if "b" in book.faces else ():
                right = (plan.room_of(plan.whole()), plan.whole() in born) != (other, True)
                self.assertIs(self.holds(book, other, plan, born), right)
            for other in ("aaac", "aaa", "", None, 1, ["aaaa"], ("aaaa",), True):
                self.assertIs(self.holds(book, other, plan, born), False)
            other = Plan("abc", plan.wide, plan.high, plan.rooms())
            self.assertIs(self.holds(book, start, other, born), False)
            for value in any_values():
                self.assertIs(self.holds(book, start, value, born), False)

    def test_plans_that_can_come(self):
        back = Back(UPRIGHT, "aaaa", ROW)
        self.assertIs(self.holds(UPRIGHT, "aaaa", ROW, back.born()), False)
        for boxes in (boxes_in(3, 1), back.born()[1:], [box for box in back.born() if box != (0, 0, 3, 1)],
                      [room[:4] for room in ROW.rooms()]):
            self.assertIs(self.holds(UPRIGHT, "aaaa", ROW, boxes), False)
        self.assertIs(self.holds(UPRIGHT, "bbbb", ROW, back.born()), True)

    def test_unmade_rectangles_in_the_list_do_not_part_others(self):
        plan = Plan("ab", 3, 1, [(0, 0, 1, 1, "aaaa"), (1, 0, 2, 1, "bbbb"), (2, 0, 3, 1, "aaab")])
        boxes = [(0, 0, 1, 1), (1, 0, 2, 1), (2, 0, 3, 1), (1, 0, 3, 1)]
        self.assertIs(self.holds(UPRIGHT, "aaaa", plan, boxes), True)
        self.assertIs(self.holds(UPRIGHT, "aaaa", plan, boxes + [(0, 0, 3, 1)]), True)


if __name__ == "__main__":
    unittest.main()
