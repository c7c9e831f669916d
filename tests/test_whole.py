"""What the document promises over the whole program."""

import random
import unittest
from itertools import product

from fourwalls.alike import compare
from fourwalls.back import Back, Come
from fourwalls.books import Book
from fourwalls.counting import grid_trees, histories_of, most_rooms, trees_of
from fourwalls.desk import Desk
from fourwalls.grids import Plan
from fourwalls.kept import verdict
from fourwalls.live import Floor
from fourwalls.mends import least_mutes
from fourwalls.pages import read_page, write_page
from fourwalls.rooms import plain, play, reached
from fourwalls.strands import strand_of
from fourwalls.touch import touching
from fourwalls.views import rows_seen
from fourwalls.weigh import greatest
from fourwalls.weights import Weights
from floors import Model, draw_turn, outcome
from samples import CROSS, draw_book, draw_machine, draw_question, draw_room
from test_alike import bent_books

RICH_WAYS = Book("abc", "ABC", (".", ".", ".", ".", "A", "|ab"), (".", ".", ".", ".", "B", "-ca"), (".", "ab", ".", "bc", "C", "|cc"))


def draw_floor(draw, book, start, turns, rooms=30):
    """Return a live floor behind drawn turns."""
    floor, model = Floor(book, start, limit=rooms), Model(book, start, rooms)
    for _ in range(turns):
        name, given = draw_turn(draw, model)
        if name != "set_limit":
            getattr(model, name)(*given)
            outcome(getattr(floor, name), *given)
    return floor


def shuffled(draw, steps):
    """Return the steps of a plain history in another order in which each cut is ahead of those in its parts."""
    left = list(steps)
    order = []
    while left:
        ready = [step for step in left if not any(step[0] != other[0] and step[0].startswith(other[0]) for other in left)]
        order.append(draw.choice(ready))
        left.remove(order[-1])
    return order


class Floors(unittest.TestCase):
    def test_made_anew_in_many_ways(self):
        draw = random.Random(1001)
        sizes = set()
        for at in range(60):
            book, start, _ = draw_question(draw, 3)
            if at % 2:
                book, start = RICH_WAYS, draw_room(draw, "abc")
            floor = draw_floor(draw, book, start, 30)
            steps = floor.plain()
            sizes.add(len(floor))
            others = [Floor(book, start) for _ in range(3)] + [read_page(write_page(floor)), floor.twin()]
            for step in steps:
                others[0].cut(*step)
            others[1].cut_all(*steps)
            for step in shuffled(draw, steps):
                others[2].cut(*step)
            desk = Desk(Floor(Book.read(book.text()), start))
            if all(bottom < 1000 for *_, bottom in steps):
                for address, cutter, top, bottom in shuffled(draw, steps):
                    self.assertIn(desk(f"cut {address or '.'} {cutter} {top} {bottom}")[0], "|-")
                others.append(desk.floor)
            for other in others:
                self.assertEqual(other, floor)
                self.assertEqual((other.plain(), other.rooms(), other.boxes()), (steps, floor.rooms(), floor.boxes()))
                self.assertEqual((other.meeting(), write_page(other)), (floor.meeting(), write_page(floor)))
                self.assertEqual([other.side_strand(view) for view in "NESW"], [floor.side_strand(view) for view in "NESW"])
            history = [step[:2] for step in floor.cuts()]
            self.assertEqual(play(book, start, history), floor.rooms())
            self.assertEqual(plain(book, start, history), [step[:2] for step in steps])
        self.assertGreater(max(sizes), 8)

    def test_undone_to_the_start_and_redone(self):
        draw = random.Random(1002)
        for _ in range(40):
            book, start, _ = draw_question(draw, 3)
            floor = draw_floor(draw, book, start, 25)
            page, states = write_page(floor), floor.history()
            while floor.history()[0]:
                floor.undo()
            self.assertEqual(floor, Floor(book, start))
            while floor.history()[1]:
                floor.redo()
            for _ in range(states[1]):
                floor.undo()
            self.assertEqual((write_page(floor), floor.history()), (page, states))


class States(unittest.TestCase):
    def test_what_is_said_of_a_book_holds_for_its_floors(self):
        draw = random.Random(1003)
        verdicts = {"safe": 0, "broken": 0, "peak": 0, "rise": 0}
        for at in range(60):
            book, start, _ = draw_question(draw, 3)
            if at % 2:
                book, start = RICH_WAYS, draw_room(draw, "abc")
            machine = draw_machine(draw, book.faces)
            weights = Weights(book.faces, each=draw.randint(-3, 2), **{face: draw.randint(-2, 1) for face in book.faces})
            known = {view: (verdict(book, start, view, machine), greatest(book, start, view, weights)) for view in "NESWAD"}
            for pair in known.values():
                for paper in pair:
                    verdicts[paper.WORD] += 1
            rooms, touches = reached(book, start), set(touching(book, start))
            floor = draw_floor(draw, book, start, 12, 14)
            while True:
                self.check(floor, rooms, touches, known, machine, weights)
                if floor.history() [0] == 0:
                    break
                floor.undo()
        self.assertGreater(min(verdicts.values()), 20)

    def check(self, floor, rooms, touches, known, machine, weights):
        standing = dict(floor.rooms())
        self.assertTrue(set(standing.values()) <= set(rooms))
        for sign, one, other in floor.meeting():
            self.assertIn((sign, standing[one], standing[other]), touches)
        history = [step[:2] for step in floor.plain()]
        for view, (kept, heavy) in known.items():
            for row in list(rows_seen(floor.book, floor.start, history, view))[:30]:
                text = "".join(standing[address] for address in row)
                if kept.WORD == "safe":
                    self.assertIn(text, machine)
                if heavy.WORD == "peak":
                    self.assertLessEqual(sum(weights(standing[address]) for address in row), heavy.number())

    def test_broken_strands_and_peaks_are_seen_on_floors(self):
        draw = random.Random(1004)
        seen = 0
        for _ in range(120):
            book, start, _ = draw_question(draw, 3)
            view = draw.choice("NESW")
            paper = verdict(book, start, view, draw_machine(draw, book.faces))
            if paper.WORD == "broken" and paper.strand.cuts() < 60:
                floor = Floor(book, start)
                floor.cut_all(*[step + (1, 2) for step in paper.strand.history()])
                self.assertNotIn(floor.side_strand(view).text(), paper.machine)
                self.assertEqual(floor.side(view), paper.strand.addresses())
                self.assertEqual(floor.side_strand(view), strand_of(book, start, paper.strand.history(), view))
                seen += 1
            paper = greatest(book, start, view, Weights(book.faces, each=-1, a=draw.randint(0, 1)))
            if paper.WORD == "peak" and paper.strand.cuts() < 60:
                floor = Floor(book, start)
                floor.cut_all(*[step + (1, 2) for step in paper.strand.history()])
                self.assertEqual(floor.side_strand(view).weight(paper.weights), paper.number())
                seen += 1
        self.assertGreater(seen, 80)

    def test_muted_books_have_no_rows_of_their_own(self):
        draw = random.Random(1005)
        for _ in range(30):
            book = draw_book(draw, "ab", "AB", 4)
            start, view, machine = draw_room(draw, "ab"), draw.choice("NESW"), draw_machine(draw, "ab")
            for lines in least_mutes(book, start, view, machine):
                floor = draw_floor(draw, book.muted(*lines), start, 20)
                self.assertIn(floor.side_strand(view).text(), machine)


class PlansOfFloors(unittest.TestCase):
    def grid_floor(self, draw, book, start, wide, high, turns):
        """Return a floor that is cut at whole places, and its plan."""
        floor = Floor(book, start, limit=99)
        for _ in range(turns):
            address, _, west, north, east, south = draw.choice(floor.boxes())
            cutter = draw.choice(book.cutters)
            cut = book.cut(floor.room(address), cutter)
            size = east - west if cut[:1] == "|" else south - north
            many = size.top * (wide if cut[:1] == "|" else high) // size.bottom
            if cut and many > 1:
                floor.cut(address, cutter, draw.randint(1, many - 1), many)
        told = []
        for _, room, west, north, east, south in floor.boxes():
            box = [one.top * size // one.bottom for one, size in ((west, wide), (north, high), (east, wide), (south, high))]
            told.append((*box, room))
        return floor, Plan(book.faces, wide, high, told)

    def test_plans_of_live_floors_can_come(self):
        draw = random.Random(1006)
        sizes = set()
        for _ in range(60):
            book, start, _ = draw_question(draw, 3)
            book = draw.choice((book, RICH_WAYS if "c" in book.faces else CROSS if "b" in book.faces else book))
            wide, high = draw.randint(1, 12), draw.randint(1, 12)
            floor, plan = self.grid_floor(draw, book, start, wide, high, 20)
            sizes.add(len(floor))
            back = Back(book, start, plan)
            self.assertIs(back.comes(), True)
            self.assertIs(Come(book, start, plan, floor.cuts()).holds(), True)
            self.assertIs(back.paper().holds(), True)
            other = Floor(book, start, limit=99)
            other.cut_all(*back.paper().steps())
            self.assertEqual([row[1:] for row in sorted(other.boxes(), key=self.place)],
                             [row[1:] for row in sorted(floor.boxes(), key=self.place)])
            self.assertLessEqual(back.trees(), back.histories())
            if floor.cuts():
                address, cutter, top, bottom = floor.plain()[0]
                sign = book.cut(start, cutter)[0]
                self.assertIn((sign, top * (wide if sign == "|" else high) // bottom, cutter), back.first_cuts())
        self.assertGreater(max(sizes), 12)

    def place(self, row):
        return [one.top * 27720 // one.bottom for one in row[2:]]

    def test_all_plans_of_a_small_floor(self):
        # Each plan comes by as many trees as there are pairs of a tree and its places that lead to it.
        for book, wide, high in ((CROSS, 3, 1), (CROSS, 2, 2), (Book("a", "AB", (".", ".", ".", ".", ".", "|aa")), 4, 1)):
            total = 0
            for rooms in self.partitions(wide, high):
                for faces in product(reached(book, "aaaa"), repeat=len(rooms)) if len(rooms) < 4 else [("",)]:
                    if faces != ("",):
                        plan = Plan(book.faces, wide, high, [box + (room,) for box, room in zip(rooms, faces)])
                        total += Back(book, "aaaa", plan).trees()
            fewer = sum(trees for trees in self.tree_counts(book, wide, high, 3))
            self.assertEqual(total, fewer)

    def partitions(self, wide, high):
        """Return all ways to cover a floor with rectangles."""
        cells = [(x, y) for y in range(high) for x in range(wide)]

        def cover(free):
            if not free:
                return [[]]
            x, y = free[0]
            found = []
            for east in range(x + 1, wide + 1):
                for south in range(y + 1, high + 1):
                    inside = [(one, other) for one in range(x, east) for other in range(y, south)]
                    if all(cell in free for cell in inside):
                        rest = [cell for cell in free if cell not in inside]
                        found += [[(x, y, east, south)] + more for more in cover(rest)]
            return found
        return cover(cells)

    def tree_counts(self, book, wide, high, most):
        """Return for one to most rooms the number of pairs of a tree and its whole places."""
        def count(room, width, height, many):
            if many == 1:
                return 1
            total = 0
            for cutter in book.cutters:
                cut = book.cut(room, cutter)
                if cut:
                    first, second = book.parts(room, cutter)
                    for at in range(1, width if cut[0] == "|" else height):
                        sizes = ((at, height), (width - at, height)) if cut[0] == "|" else ((width, at), (width, height - at))
                        total += sum(count(first, *sizes[0], one) * count(second, *sizes[1], many - one) for one in range(1, many))
            return total
        return [count("aaaa", wide, high, many) for many in range(1, most + 1)]

    def test_counts_belong_together(self):
        for book in (CROSS, RICH_WAYS):
            for wide, high in ((2, 2), (3, 1), (1, 4), (3, 2)):
                counts = self.tree_counts(book, wide, high, wide * high)
                self.assertEqual(grid_trees(book, "aaaa", wide, high), sum(counts))
                self.assertEqual(most_rooms(book, "aaaa", wide, high), max(many + 1 for many, one in enumerate(counts) if one))
            for cuts in range(5):
                self.assertLessEqual(trees_of(book, "aaaa", cuts), histories_of(book, "aaaa", cuts))


class Books(unittest.TestCase):
    def test_equal_turns_on_both_floors(self):
        draw = random.Random(1007)
        words = {"alike": 0, "apart": 0}
        for _ in range(40):
            book, start, _ = draw_question(draw, 3)
            for other in bent_books(draw, book)[:6]:
                paper = compare(book, other, start)
                words[paper.WORD] += 1
                if paper.WORD == "alike":
                    self.play_alike(draw, book, other, start)
                else:
                    self.play_apart(book, other, start, paper.history())
        self.assertGreater(min(words.values()), 40)

    def play_alike(self, draw, book, other, start):
        floors = Floor(book, start), Floor(other, start)
        model = Model(book, start)
        for _ in range(12):
            name, given = draw_turn(draw, model)
            getattr(model, name)(*given)
            answers = [repr(outcome(getattr(floor, name), *given)) for floor in floors]
            self.assertEqual(*answers)
            self.assertEqual(*[(floor.cuts(), floor.boxes(), floor.history()) for floor in floors])

    def play_apart(self, book, other, start, history):
        floors = Floor(book, start), Floor(other, start)
        for at, step in enumerate(history):
            answers = [floor.cut(*step) for floor in floors]
            self.assertEqual(answers[0] != answers[1], at == len(history) - 1)


if __name__ == "__main__":
    unittest.main()
