"""Drawn strands: right ones of very long rows, and such as are bent at one or two places."""

import random
import unittest

from fourwalls.kept import Broken
from fourwalls.machines import Machine
from fourwalls.strands import Strand
from fourwalls.views import members
from fourwalls.weights import Weights
from samples import CHARACTERS, any_values, cuts_of, draw_machine, draw_question, draw_room, raised, told


def draw_lines(draw, book, start, view, many):
    """Return right lines, of which each names the last fitting ones, and the item of the start."""
    rooms = [room for room in members(book, start, view) if cuts_of(book, view, room)]
    lines = []
    last = {}
    for _ in range(many if rooms else 0):
        room = draw.choice(rooms + [start] * (start in rooms))
        cutter, how, first, second = draw.choice(cuts_of(book, view, room))
        items = [last.get(first), last.get(second)]
        if how != "both":
            items[{"first": 1, "second": 0, "either": draw.randrange(2)}[how]] = "-"
        last[room] = len(lines)
        lines.append((room, cutter, *items))
    return lines, last.get(start)


def is_whole(value):
    return isinstance(value, int) and not isinstance(value, bool)


def is_right(book, start, view, lines, top):
    """Tell straight from [10] whether lines and a top have the form of a strand, for a right start and view."""
    rooms = []
    for line in lines:
        if not isinstance(line, tuple) or len(line) != 4:
            return False
        room, cutter, *items = line
        if not isinstance(room, str) or len(room) != 4 or any(face not in book.faces for face in room):
            return False
        found = [cut for cut in cuts_of(book, view, room) if cut[0] == cutter]
        if not isinstance(cutter, str) or not found:
            return False
        _, how, *parts = found[0]
        inside = [item is None or is_whole(item) and 0 <= item < len(rooms) and rooms[item] == part
                  for item, part in zip(items, parts)]
        outside = [isinstance(item, str) and item == "-" for item in items]
        ways = {"both": [inside[0] and inside[1]], "first": [inside[0] and outside[1]],
                "second": [outside[0] and inside[1]]}
        ways["either"] = ways["first"] + ways["second"]
        if not any(ways[how]):
            return False
        rooms.append(room)
    return top is None or is_whole(top) and 0 <= top < len(rooms) and rooms[top] == start


class Row:
    """The row of right lines, counted by each line once."""

    def __init__(self, book, lines, weights, machine):
        self.rooms = []
        for room, cutter, *items in lines:
            parts = [(part, item) for part, item in zip(book.parts(room, cutter), items) if item != "-"]
            self.rooms.append(parts)
        self.many, self.cuts, self.sums, self.ends = [], [], [], []
        for parts in self.rooms:
            self.many.append(sum(1 if item is None else self.many[item] for _, item in parts))
            self.cuts.append(1 + sum(0 if item is None else self.cuts[item] for _, item in parts))
            self.sums.append(sum(weights(part) if item is None else self.sums[item] for part, item in parts))
            ends = list(range(machine.size))
            for part, item in parts:
                ends = [machine(part, end) if item is None else self.ends[item][end] for end in ends]
            self.ends.append(ends)

    def room(self, line, at):
        """Return the room with an index in the row of a line."""
        for part, item in self.rooms[line]:
            size = 1 if item is None else self.many[item]
            if at < size:
                return part if item is None else self.room(item, at)
            at -= size
        raise AssertionError("no such room")


class Long(unittest.TestCase):
    def test_all_that_a_strand_tells(self):
        draw = random.Random(121)
        longest = 0
        for _ in range(200):
            book, start, view = draw_question(draw, 4)
            lines, top = draw_lines(draw, book, start, view, draw.randint(0, 28))
            weights = Weights(book.faces, each=draw.randint(-5, 5), **{face: draw.randint(-99, 99) for face in book.faces})
            machine = draw_machine(draw, book.faces)
            strand = Strand(book, start, view, lines, top)
            self.assertIs(strand.holds(), True)
            if top is None:
                self.assertEqual((strand.many(), strand.cuts(), strand.text()), (1, 0, start))
                continue
            row = Row(book, lines, weights, machine)
            many = row.many[top]
            longest = max(longest, many)
            self.assertEqual((strand.many(), strand.cuts()), (many, row.cuts[top]))
            self.assertEqual((strand.weight(weights), strand.end(machine)), (row.sums[top], row.ends[top][0]))
            for at in {0, 1 % many, many // 3, many // 2, many - 1}:
                self.assertEqual(strand.room(at), row.room(top, at))
            for at in any_values() + [many, many + 1, -many, str(many)]:
                if not is_whole(at) or not 0 <= at < many:
                    self.assertEqual(told(raised(strand.room, at)), ("UnknownRoom", {"at": at}))
            paper = Broken(book, start, view, machine, strand)
            self.assertEqual(paper.told(), f"broken by {row.cuts[top]} cuts")
            self.assertIs(paper.holds(), row.ends[top][0] in machine.bad())
            if many <= 400 and row.cuts[top] <= 400:
                rooms = [row.room(top, at) for at in range(many)]
                self.assertEqual((strand.text(), len(strand.addresses())), ("".join(rooms), many))
                self.assertEqual(len(strand.history()), row.cuts[top])
            else:
                for method in (strand.text, strand.addresses, strand.history):
                    self.assertEqual(told(raised(method)), ("TooMany", {"most": 400}))
        self.assertGreater(longest, 100000)

    def test_twenty_eight_lines(self):
        draw = random.Random(122)
        for _ in range(20):
            book, start, view = draw_question(draw, 2)
            lines, top = draw_lines(draw, book, start, view, 28)
            strand = Strand(book, start, view, tuple(lines), top)
            self.assertIs(strand.holds(), True)
            # Equal numbers for all rooms weigh as many as there are.
            self.assertEqual(strand.weight(Weights(book.faces, each=3)), 3 * strand.many())


class Bent(unittest.TestCase):
    def bend(self, draw, book, lines, top):
        """Return lines and a top with another value at one place."""
        values = any_values() + CHARACTERS + [draw_room(draw, book.faces), len(lines), draw.randint(-1, 9), "-", None, 0]
        value = draw.choice(values + ["-", None, draw.randrange(4)] * 12)
        at = draw.randint(0, len(lines))
        if at == len(lines):
            return lines, value
        place = draw.randint(0, 5)
        if place == 4:
            return lines[:at] + lines[at + 1:], top
        line = value if place == 5 else lines[at][:place] + (value,) + lines[at][place + 1:]
        return lines[:at] + [line] + lines[at + 1:], top

    def test_at_one_or_two_places(self):
        draw = random.Random(123)
        count = {True: 0, False: 0}
        for _ in range(1500):
            book, start, view = draw_question(draw, 3)
            lines, top = draw_lines(draw, book, start, view, draw.randint(1, 6))
            bent, item = self.bend(draw, book, lines, top)
            if draw.random() < 0.5 and all(isinstance(line, tuple) for line in bent):
                bent, item = self.bend(draw, book, bent, item)
            right = is_right(book, start, view, bent, item)
            count[right] += 1
            strand = Strand(book, start, view, bent, item)
            self.assertIs(strand.holds(), right, (bent, item))
            if not right:
                machine = Machine(book.faces, [[0] * len(book.faces)])
                for method in (strand.cuts, strand.many, strand.text, strand.addresses, strand.history,
                               lambda: strand.room(0), lambda: strand.end(machine),
                               lambda: strand.weight(Weights(book.faces))):
                    self.assertEqual(told(raised(method)), ("InvalidPaper", {}))
        self.assertGreater(min(count.values()), 50)


if __name__ == "__main__":
    unittest.main()
