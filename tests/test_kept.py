"""Safe, Broken, links_of and verdict."""

import random
import unittest

from fourwalls.books import Book
from fourwalls.kept import Broken, Safe, links_of, verdict
from fourwalls.machines import Machine
from fourwalls.papers import Paper
from fourwalls.rooms import play
from fourwalls.strands import Strand, strand_of
from fourwalls.views import members, rows_seen, texts_of
from samples import (
    CROSS, RICH, any_values, cuts_of, draw_book, draw_history, draw_machine, draw_question, draw_room, named, raised,
    told,
)

UPRIGHT = Book("ab", "A", (".", ".", ".", ".", "A", "|ab"))
CHAIN = Machine("ab", [(1, 0), (2, 0), (2, 2)], [2])


def least_cuts(book, start, view, machine):
    """Return for each member a dict from its links to the least number of cuts, straight from [9]."""
    found = {room: {(s, machine(room, s)): 0 for s in range(machine.size)} for room in members(book, start, view)}
    changed = True
    while changed:
        changed = False
        for room in found:
            for _, how, first, second in cuts_of(book, view, room):
                if how == "both":
                    more = [((s, u), one + other) for (s, t), one in found[first].items()
                            for (r, u), other in found[second].items() if r == t]
                else:
                    more = [item for part in named(how, first, second) for item in found[part].items()]
                for pair, cuts in more:
                    if cuts + 1 < found[room].get(pair, cuts + 2):
                        found[room][pair] = cuts + 1
                        changed = True
    return found


def breaking_cuts(book, start, view, machine):
    """Return the least number of cuts of a row that the machine does not keep, or None."""
    least = least_cuts(book, start, view, machine)[start]
    found = [cuts for (s, t), cuts in least.items() if s == 0 and t in machine.bad()]
    return min(found) if found else None


def shuffled(draw, table):
    """Return the same table in another order, with pairs that stand twice and lists as tuples."""
    bent = []
    for room, pairs in table:
        more = pairs + [draw.choice(pairs)]
        draw.shuffle(more)
        bent.append((room, draw.choice([list, tuple])(more)))
    draw.shuffle(bent)
    return draw.choice([list, tuple])(bent)


class LinksOf(unittest.TestCase):
    def test_by_hand(self):
        # Both parts in the row of the east side are abab again, and aa leads to the state 2 for good.
        table = links_of(UPRIGHT, "abab", "E", CHAIN)
        self.assertEqual(table, [("abab", [(0, 0), (1, 2), (2, 2)])])
        # Along the east side stands aaaa, or aaab instead of it.
        table = links_of(UPRIGHT, "aaaa", "E", Machine.counted("ab", "b", 2))
        self.assertEqual(table, [("aaaa", [(0, 0), (0, 1), (1, 0), (1, 1)]), ("aaab", [(0, 1), (1, 0)])])

    def test_against_sets(self):
        draw = random.Random(61)
        for _ in range(150):
            book, start, view = draw_question(draw, 6)
            machine = draw_machine(draw, book.faces)
            least = least_cuts(book, start, view, machine)
            expected = [(room, sorted(least[room])) for room in sorted(least)]
            self.assertEqual(links_of(book, start, view, machine), expected)

    def test_rows_of_few_cuts_are_links(self):
        draw = random.Random(62)
        for _ in range(40):
            book, start, view = draw_question(draw, 3)
            machine = draw_machine(draw, book.faces)
            links = dict(links_of(book, start, view, machine))
            for cuts in range(3):
                for text in texts_of(book, start, view, cuts):
                    for state in range(machine.size):
                        self.assertIn((state, machine(text, state)), links[start])

    def test_new_lists(self):
        machine = Machine.without("ab", "bb")
        table = links_of(CROSS, "aaaa", "A", machine)
        again = links_of(start="aaaa", machine=machine, view="A", book=CROSS)
        self.assertEqual(table, again)
        for _, pairs in table:
            pairs.clear()
        table.clear()
        self.assertEqual(links_of(CROSS, "aaaa", "A", machine), again)

    def test_great_machine(self):
        table = [((at + 1) % 200, (at + 7) % 200) for at in range(200)]
        machine = Machine("ab", table, [5])
        for room, pairs in links_of(UPRIGHT, "aaaa", "E", machine):
            self.assertEqual(pairs, sorted(pairs))
            self.assertIn((0, machine(room)), pairs)


class Verdict(unittest.TestCase):
    def test_examples(self):
        self.assertEqual(verdict(UPRIGHT, "aaaa", "N", Machine.without("ab", "bb")).told(), "safe")
        self.assertEqual(verdict(UPRIGHT, "aaaa", "N", Machine.without("ab", "ba")).told(), "broken by 2 cuts")

    def test_whole_start_is_broken_by_no_cut(self):
        paper = verdict(UPRIGHT, "bbbb", "S", Machine.without("ab", "b"))
        self.assertEqual((paper.told(), paper.strand.top, paper.strand.cuts()), ("broken by 0 cuts", None, 0))
        self.assertEqual(verdict(UPRIGHT, "aaaa", "E", Machine.without("ab", "b")).told(), "broken by 1 cuts")
        self.assertEqual(verdict(UPRIGHT, "aaaa", "W", Machine.without("ab", "b")).told(), "safe")
        self.assertEqual(verdict(UPRIGHT, "aaaa", "D", Machine.begins("ab", "aaa")).told(), "safe")

    def test_both_verdicts_hold(self):
        draw = random.Random(63)
        count = {"safe": 0, "broken": 0}
        for _ in range(250):
            book, start, view = draw_question(draw, 6)
            machine = draw_machine(draw, book.faces)
            paper = verdict(book, start, view, machine)
            count[paper.WORD] += 1
            self.assertIs(paper.holds(), True)
            self.assertEqual((paper.book, paper.start, paper.view, paper.machine), (book, start, view, machine))
            least = breaking_cuts(book, start, view, machine)
            if least is None:
                self.assertIsInstance(paper, Safe)
                self.assertEqual(paper.table(), links_of(book, start, view, machine))
            else:
                self.assertIsInstance(paper, Broken)
                self.assertEqual((paper.strand.cuts(), paper.told()), (least, f"broken by {least} cuts"))
                self.assertNotIn(paper.strand.text() if paper.strand.many() <= 400 else "", machine)
            again = verdict(Book.read(book.text()), start, view, machine)
            self.assertEqual(again.told(), paper.told())
            if least is None:
                self.assertEqual(again.table(), paper.table())
            else:
                self.assertTrue(again.strand == paper.strand)
        self.assertGreater(min(count.values()), 50)

    def test_as_few_cuts_as_possible(self):
        draw = random.Random(1)
        found = {}
        for _ in range(500):
            faces = "abc"[:draw.randint(2, 3)]
            book = draw_book(draw, faces, "AB", draw.randint(3, 8), draw.choice([0.6, 0.75, 0.85]))
            start, view, size = draw_room(draw, faces), draw.choice("NESWAD"), draw.randint(4, 9)
            machine = Machine(faces, [[draw.randrange(size) for _ in faces] for _ in range(size)], [size - 1])
            paper = verdict(book, start, view, machine)
            least = breaking_cuts(book, start, view, machine)
            self.assertEqual(paper.told(), "safe" if least is None else f"broken by {least} cuts")
            found[least] = found.get(least, 0) + 1
        self.assertTrue({None, 0, 1, 2, 3, 4} <= set(found))

    def test_fewer_cuts_though_more_rooms(self):
        # Three level cuts one in another bring the face d; two upright ones bring three rooms, with e four times.
        levels = [(".", ".", face, ".", "B", "-" + "bcd"[at] + "a") for at, face in enumerate("abc")]
        book = Book("abcde", "AB", (".", ".", ".", ".", "A", "|ee"), *levels)
        # The state is the number of times that e stood, and 4 also behind a d.
        table = [(state, state, state, 4, state + 1) for state in range(4)] + [(4, 4, 4, 4, 4)]
        for most, cuts in ((4, 2), (3, 2), (2, 1)):
            machine = Machine("abcde", table, [most, 4] if most < 4 else [4])
            self.assertEqual(verdict(book, "aaaa", "N", machine).told(), f"broken by {cuts} cuts")

    def test_rows_of_drawn_histories(self):
        draw = random.Random(64)
        for _ in range(120):
            book, start, view = draw_question(draw, 4)
            machine = draw_machine(draw, book.faces)
            paper = verdict(book, start, view, machine)
            if paper.WORD == "broken":
                if paper.strand.many() <= 400:
                    history = paper.strand.history()
                    rooms = dict(play(book, start, history))
                    texts = ["".join(rooms[at] for at in row) for row in rows_seen(book, start, history, view)]
                    self.assertIn(paper.strand.text(), texts)
                    self.assertTrue(any(text not in machine for text in texts))
                continue
            for _ in range(4):
                history = draw_history(draw, book, start, 7)
                rooms = dict(play(book, start, history))
                for row in rows_seen(book, start, history, view):
                    self.assertIn("".join(rooms[at] for at in row), machine)

    def test_very_many_cuts(self):
        # Each part of aaab is aaab again, with one b; the machine breaks at the b with the number 31.
        book = Book("ab", "A", (".", ".", ".", "b", "A", "|ab"))
        machine = Machine("ab", [(at, min(at + 1, 31)) for at in range(32)], [31])
        paper = verdict(book, "aaab", "N", machine)
        self.assertEqual(paper.told(), "broken by 30 cuts")
        self.assertIs(paper.holds(), True)

    def test_errors_in_their_order(self):
        machine = Machine("ab", [(0, 0)])
        for call in (links_of, verdict):
            for value in any_values() + [Machine("abc", [(0, 0, 0)]), Machine("ac", [(0, 0)]), Machine("a", [(0,)])]:
                if value != "aaaa":
                    self.assertEqual(told(raised(call, CROSS, value, None, None)), ("InvalidRoom", {"given": value}))
                if value != "A":
                    error = raised(call, CROSS, "aaaa", value, None)
                    self.assertEqual(told(error), ("InvalidView", {"given": value}))
                self.assertEqual(told(raised(call, CROSS, "aaaa", "A", value)), ("OtherFaces", {}))
            self.assertEqual(told(raised(call, CROSS, "aaac", "A", machine)), ("InvalidRoom", {"given": "aaac"}))
            self.assertEqual(told(raised(call, CROSS, "aaaa", "NE", machine)), ("InvalidView", {"given": "NE"}))


class Tables(unittest.TestCase):
    """Tables of a Safe that are right, and such as are bent at one place."""

    def each_safe(self, seed, many=40):
        draw = random.Random(seed)
        found = 0
        while found < many:
            book, start, view = draw_question(draw, 3)
            machine = draw_machine(draw, book.faces, 4)
            paper = verdict(book, start, view, machine)
            if paper.WORD == "safe":
                found += 1
                yield draw, book, start, view, machine, paper.table()

    def test_in_any_order(self):
        for draw, book, start, view, machine, table in self.each_safe(65):
            paper = Safe(book, start, view, machine, shuffled(draw, table))
            self.assertEqual((paper.holds(), paper.holds(), paper.told()), (True, True, "safe"))

    def test_more_rooms(self):
        for draw, book, start, view, machine, table in self.each_safe(66):
            other = draw_room(draw, book.faces)
            more = dict(links_of(book, other, view, machine))
            more.update(dict(table))
            self.assertIs(Safe(book, start, view, machine, sorted(more.items())).holds(), True)
            # The room of another start alone is no table for this start.
            if start not in dict(links_of(book, other, view, machine)):
                paper = Safe(book, start, view, machine, links_of(book, other, view, machine))
                self.assertIs(paper.holds(), False)

    def test_more_pairs(self):
        for _, book, start, view, machine, table in self.each_safe(67):
            states = range(machine.size)
            full = [(room, [(s, t) for s in states for t in states]) for room, _ in table]
            self.assertIs(Safe(book, start, view, machine, full).holds(), machine.bad() == [])
            least = dict(table)
            for room, pairs in table:
                for s in states:
                    for t in states:
                        bent = [(one, pairs + [(s, t)] if one == room else least[one]) for one, _ in table]
                        if (s, t) not in pairs:
                            self.assertIs(Safe(book, start, view, machine, bent).holds(),
                                          self.is_right(book, start, view, machine, bent), (room, s, t))

    def is_right(self, book, start, view, machine, table):
        """Tell straight from [9] whether a table without wrong forms is right."""
        links = dict(table)
        for room, pairs in table:
            if any((s, machine(room, s)) not in pairs for s in range(machine.size)):
                return False
            for _, how, first, second in cuts_of(book, view, room):
                if any(part not in links for part in named(how, first, second)):
                    return False
                if how == "both":
                    needed = {(s, u) for s, t in links[first] for r, u in links[second] if r == t}
                else:
                    needed = {pair for part in named(how, first, second) for pair in links[part]}
                if not needed <= set(pairs):
                    return False
        return all(s != 0 or t not in machine.bad() for s, t in links[start])

    def test_without_one_pair_or_entry(self):
        for _, book, start, view, machine, table in self.each_safe(68):
            for at, (room, pairs) in enumerate(table):
                self.assertIs(Safe(book, start, view, machine, table[:at] + table[at + 1:]).holds(), False)
                for pair in pairs:
                    bent = list(table)
                    bent[at] = (room, [one for one in pairs if one != pair])
                    # Each pair of a least table is needed, as some row has it.
                    self.assertIs(Safe(book, start, view, machine, bent).holds(), False, (room, pair))

    def test_bent_at_one_place(self):
        for draw, book, start, view, machine, table in self.each_safe(69, 12):
            at = draw.randrange(len(table))
            room, pairs = table[at]
            k = draw.randrange(len(pairs))
            state, end = pairs[k]
            wrong = [value for value in any_values() + ["ab", (0, 0, 0), (0,), [0, 0], (state, end, 0)]
                     if repr(value) != repr(pairs[k])]
            wrong += [(state, machine.size), (machine.size, end), (-1, end), (state, -1), (state, None), (str(state), end),
                      (True, end), (state, False), ((state,), end), [state, end]]
            bents = [pairs[:k] + [value] + pairs[k:] for value in wrong]
            bents += [value for value in any_values() if not isinstance(value, (list, tuple))]
            entries = [(room, bent) for bent in bents]
            entries += [(other, pairs) for other in any_values() + ["aaaz", room + "a", room[:3], [room]] if other != room]
            entries += [[room, pairs], (room, pairs, pairs), (room,), (pairs, room), room, pairs]
            for entry in entries:
                bent = table[:at] + [entry] + table[at + 1:]
                self.assertIs(Safe(book, start, view, machine, bent).holds(), False, entry)
                # A room that cannot come may have an entry.
                if entry[:1] != ("aaaa",):
                    self.assertIs(Safe(book, start, view, machine, table + [entry]).holds(), False, entry)
            self.assertIs(Safe(book, start, view, machine, table + [table[at]]).holds(), False)
            self.assertIs(Safe(book, start, view, machine, table + [(room, [])]).holds(), False)

    def test_bad_state_at_the_start(self):
        for _, book, start, view, machine, table in self.each_safe(70):
            for end in sorted({t for s, t in dict(table)[start] if s == 0}):
                bad = Machine(book.faces, machine.table(), sorted({end, *machine.bad()}))
                self.assertIs(Safe(book, start, view, bad, table).holds(), False)
                self.assertEqual(verdict(book, start, view, bad).WORD, "broken")

    def test_other_starts_views_and_machines(self):
        for draw, book, start, view, machine, table in self.each_safe(71):
            for other in {draw_room(draw, book.faces) for _ in range(5)}:
                bent = dict(table).get(other)
                right = bent is not None and all(s != 0 or t not in machine.bad() for s, t in bent)
                self.assertIs(Safe(book, other, view, machine, table).holds(), right)
            for other in "NESWAD":
                right = self.is_right(book, start, other, machine, table)
                self.assertIs(Safe(book, start, other, machine, table).holds(), right)
            whole = Machine(book.faces + "z", [row + (0,) for row in machine.table()], machine.bad())
            self.assertIs(Safe(book, start, view, whole, table).holds(), False)
            wider = Book(book.faces + "z", book.cutters, *book.lines())
            self.assertIs(Safe(wider, start, view, machine, table).holds(), False)

    def test_empty_table(self):
        machine = Machine("ab", [(0, 0)])
        self.assertIs(Safe(UPRIGHT, "aaaa", "N", machine, []).holds(), False)
        self.assertIs(Safe(Book("ab", "A"), "aaaa", "N", machine, [("aaaa", [(0, 0)])]).holds(), True)
        self.assertIs(Safe(Book("ab", "A"), "aaaa", "N", machine, (("aaaa", ((0, 0), (0, 0))),)).holds(), True)


class Breaking(unittest.TestCase):
    def test_end_in_a_bad_and_in_a_good_state(self):
        draw = random.Random(72)
        ends = set()
        for _ in range(300):
            book, start, view = draw_question(draw, 3)
            machine = draw_machine(draw, book.faces)
            history = draw_history(draw, book, start, 6)
            rows = list(rows_seen(book, start, history, view))
            walk = draw.randrange(len(rows))
            strand = strand_of(book, start, history, view, walk=walk)
            rooms = dict(play(book, start, history))
            broken = "".join(rooms[at] for at in rows[walk]) not in machine
            ends.add(broken)
            paper = Broken(book, start, view, machine, strand)
            self.assertEqual((paper.holds(), paper.holds()), (broken, broken))
            self.assertEqual(paper.told(), f"broken by {strand.cuts()} cuts")
            self.assertTrue(paper.strand == strand)
        self.assertEqual(len(ends), 2)

    def test_other_book_start_and_view(self):
        machine = Machine.without("ab", "b")
        strand = Strand(UPRIGHT, "aaaa", "N", [("aaaa", "A", None, None)], 0)
        self.assertIs(Broken(UPRIGHT, "aaaa", "N", machine, strand).holds(), True)
        others = [(Book("ab", "AB", *UPRIGHT.lines()), "aaaa", "N"), (UPRIGHT.muted(0), "aaaa", "N"),
                  (UPRIGHT, "aaab", "N"), (UPRIGHT, "aaaa", "S"), (UPRIGHT, "aaaa", "A"), (UPRIGHT, ["aaaa"], "N"),
                  (UPRIGHT, None, "N"), (UPRIGHT, "aaaa", None), (UPRIGHT, "aaaa", "n")]
        for book, start, view in others:
            paper = Broken(book, start, view, machine, strand)
            self.assertEqual((paper.holds(), paper.told()), (False, "broken by 1 cuts"))
            paper = Broken(UPRIGHT, "aaaa", "N", machine, Strand(book, start, view, strand.lines(), 0))
            self.assertIs(paper.holds(), False)
        same = Strand(Book.read(UPRIGHT.text()), "aaaa", "N", tuple(strand.lines()), 0)
        self.assertIs(Broken(UPRIGHT, "aaaa", "N", machine, same).holds(), True)

    def test_strands_that_do_not_hold(self):
        machine = Machine.without("ab", "b")
        for top in (None, 0, 1, False, "0"):
            strand = Strand(UPRIGHT, "aaaa", "N", [("aaaa", "A", None, None)], top)
            paper = Broken(UPRIGHT, "aaaa", "N", machine, strand)
            if strand.holds():
                self.assertEqual((paper.told(), paper.holds()), (f"broken by {strand.cuts()} cuts", top == 0))
            else:
                self.assertEqual((paper.told(), paper.holds()), ("broken", False))

    def test_values_that_are_no_strands(self):
        for value in any_values() + [Paper(CROSS, "aaaa"), [Strand(UPRIGHT, "aaaa", "N", [], None)]]:
            paper = Broken(UPRIGHT, "bbbb", "N", Machine.without("ab", "b"), value)
            self.assertIs(paper.holds(), False)
            right = isinstance(value, Strand)
            self.assertEqual(paper.told(), "broken by 0 cuts" if right else "broken")

    def test_machines_of_other_faces(self):
        strand = Strand(UPRIGHT, "bbbb", "N", [], None)
        for machine in any_values() + [Machine("abc", [(0, 0, 0)], [0]), Machine("b", [(0,)], [0])]:
            paper = Broken(UPRIGHT, "bbbb", "N", machine, strand)
            self.assertEqual((paper.holds(), paper.told()), (False, "broken by 0 cuts"))
        self.assertIs(Broken(UPRIGHT, "bbbb", "N", Machine("ab", [(0, 0)], [0]), strand).holds(), True)

    def test_very_long_row(self):
        lines = [("aaab", "A", None, None)] + [("aaab", "A", at, at) for at in range(27)]
        book = Book("ab", "A", (".", ".", ".", "b", "A", "|ab"))
        strand = Strand(book, "aaab", "N", lines, 27)
        machine = Machine.counted("ab", "b", 7)
        paper = Broken(book, "aaab", "N", machine, strand)
        self.assertEqual(paper.told(), f"broken by {2 ** 28 - 1} cuts")
        self.assertEqual(paper.holds(), 2 ** 28 % 7 != 0)


class Rich(unittest.TestCase):
    def test_all_views(self):
        for view in "NESWAD":
            for start in ("aaaa", "bacb", "cccc"):
                for machine in (Machine.without("abc", "cb"), Machine.counted("abc", "c", 4), Machine.begins("abc", "ba")):
                    paper = verdict(RICH, start, view, machine)
                    least = breaking_cuts(RICH, start, view, machine)
                    expected = "safe" if least is None else f"broken by {least} cuts"
                    self.assertEqual((paper.told(), paper.holds()), (expected, True))

    def test_drawn_books_are_unlike(self):
        draw = random.Random(73)
        sizes = {len(members(draw_book(draw, "abcd", "ABCD", 6), "abcd", view)) for view in "NESWAD" for _ in range(20)}
        self.assertGreater(len(sizes), 5)


if __name__ == "__main__":
    unittest.main()
