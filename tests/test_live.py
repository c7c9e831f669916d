"""Floor: cuts, unions, undo and redo, and what is seen of a live floor."""

import random
import unittest
from fractions import Fraction

from fourwalls.books import Book
from fourwalls.live import Floor
from fourwalls.plans import meeting, placed, walk_at
from fourwalls.ratios import Ratio
from fourwalls.strands import Strand, strand_of
from fourwalls.views import rows_seen
from floors import Model, do_turn, draw_turn, outcome, seen_of, seen_of_model
from samples import CROSS, any_values, draw_question, laid_out, meeting_out, raised, told

ANY = (".", ".", ".", ".")
# C goes away everywhere.
THREE = Book("ab", "ABC", *CROSS.lines())
GREAT = 999999999999999999


def many_rooms(many, limit=99, book=CROSS):
    """Return a floor with so many rooms."""
    floor = Floor(book, "aaaa", limit=limit)
    address = ""
    for at in range(many - 1):
        floor.cut(address, "AB"[at % 2], 1, 2)
        address += "1"
    return floor


def drawn_floor(draw, book, start, turns):
    """Return a floor behind drawn turns, and its model."""
    floor, model = Floor(book, start), Model(book, start)
    for _ in range(turns):
        name, given = draw_turn(draw, model)
        getattr(model, name)(*given)
        outcome(getattr(floor, name), *given)
    return floor, model


class Making(unittest.TestCase):
    def test_start_alone(self):
        floor = Floor(CROSS, "abab")
        self.assertEqual((floor.book, floor.start, floor.busy, floor.limit), (CROSS, "abab", False, 60))
        self.assertEqual(seen_of(floor), seen_of_model(Model(CROSS, "abab")))
        self.assertEqual((floor.rooms(), floor.cuts(), floor.history(), len(floor)), ([("", "abab")], [], (0, 0), 1))
        self.assertEqual((repr(floor), bool(floor), Floor.MOST, floor.MOST), ("Floor(1 rooms)", True, 99, 99))
        self.assertEqual(Floor(start="abab", book=CROSS, limit=5).limit, 5)

    def test_limit(self):
        for limit in (1, 2, 59, 60, 99):
            self.assertEqual(Floor(CROSS, "aaaa", limit=limit).limit, limit)
        for value in any_values() + [0, 100, 101, -1]:
            if value not in (1, 2) or isinstance(value, bool):
                self.assertEqual(told(raised(Floor, CROSS, "aaaa", limit=value)), ("InvalidLimit", {"given": value}))
                self.assertEqual(told(raised(Floor, CROSS, "aaac", limit=value)), ("InvalidRoom", {"given": "aaac"}))
        self.assertIs(raised(Floor, CROSS, "aaaa", limit=True).given, True)
        with self.assertRaises(TypeError):
            Floor(CROSS, "aaaa", 60)

    def test_start(self):
        for value in any_values() + ["aaac", "aaa"]:
            if value != "aaaa":
                self.assertEqual(told(raised(Floor, CROSS, value, limit=None)), ("InvalidRoom", {"given": value}))

    def test_own_methods(self):
        for name in ("limit", "set_limit", "cut", "cut_all", "unite", "undo", "redo", "history", "cuts", "plain", "rooms",
                     "walk", "boxes", "room", "area", "meeting", "side", "side_strand", "seen", "twin", "__eq__", "__len__",
                     "__repr__", "MOST"):
            self.assertIn(name, vars(Floor))


class Turns(unittest.TestCase):
    def test_example(self):
        floor = Floor(Book("ab", "A", (*ANY, "A", "|ab")), "aaaa")
        found = [floor.cut("", "A", 2, 6), floor.cuts(), floor.area("1").text(), floor.unite(""), floor.history()]
        self.assertEqual(found, ["|ab", [("", "A", 1, 3)], "2/3", "A", (2, 0)])

    def test_drawn_turns(self):
        draw = random.Random(701)
        answers = {}
        for _ in range(130):
            book, start, _ = draw_question(draw, 4)
            if draw.random() < 0.4:
                book, start = THREE, "aaaa"
            limit = draw.choice((60, 60, 2, 4, 7))
            floor, model = Floor(book, start, limit=limit), Model(book, start, limit)
            for _ in range(draw.randint(1, 20)):
                turn = draw_turn(draw, model)
                answer = do_turn(self, floor, model, turn)
                key = (turn[0], answer[0] if isinstance(answer, tuple) else "done" if answer or answer is None else "none")
                answers[key] = answers.get(key, 0) + 1
        for key in (("cut", "done"), ("cut", "none"), ("cut", "InvalidAddress"), ("cut", "InvalidCutter"),
                    ("cut", "InvalidPlace"), ("cut", "Full"), ("cut_all", "done"), ("cut_all", "none"),
                    ("cut_all", "InvalidStep"), ("cut_all", "InvalidAddress"), ("cut_all", "Full"), ("unite", "done"),
                    ("unite", "NotUnited"), ("unite", "InvalidAddress"), ("undo", "done"), ("undo", "NothingLeft"),
                    ("redo", "done"), ("redo", "NothingLeft"), ("set_limit", "done"), ("set_limit", "InvalidLimit")):
            self.assertGreater(answers.get(key, 0), 2, key)

    def test_what_turns_return(self):
        floor = Floor(THREE, "aaaa")
        self.assertEqual(floor.cut("", "A"), "|ab")
        self.assertEqual(floor.cut(bottom=6, top=4, cutter="B", address="1"), "-ba")
        self.assertEqual(floor.cut("0", "C"), "")
        self.assertEqual(floor.cut_all(("0", "A", 1, 2), ("01", "C", 1, 2), ("00", "B", 3, 9)), ["|ab", "", "-ba"])
        self.assertEqual(floor.unite(address="1"), "B")
        self.assertEqual((floor.undo(), floor.redo(), floor.set_limit(9)), (None, None, None))
        self.assertEqual(floor.cuts(), [("", "A", 1, 2), ("0", "A", 1, 2), ("00", "B", 1, 3)])
        self.assertEqual(floor.history(), (4, 0))

    def test_cutters_that_go_away_make_no_step(self):
        floor = Floor(THREE, "aaaa", limit=2)
        floor.cut("", "A")
        floor.undo()
        # What was undone can still be redone behind a call that changed nothing.
        self.assertEqual((floor.cut("", "C"), floor.cut_all(("", "C", 1, 2), ("", "C", 1, 3)), floor.cut_all()), ("", ["", ""], []))
        self.assertEqual(floor.history(), (0, 1))
        floor.redo()
        self.assertEqual((len(floor), floor.history()), (2, (1, 0)))
        # A full floor does not mind cutters that go away.
        self.assertEqual((floor.cut("0", "C"), floor.cut_all(("1", "C", 1, 2))), ("", [""]))
        self.assertEqual(floor.history(), (1, 0))

    def test_a_step_ends_what_could_be_redone(self):
        for turn in (lambda floor: floor.cut("0", "B"), lambda floor: floor.unite(""), lambda floor: floor.cut_all(("1", "A", 1, 2))):
            floor = many_rooms(4)
            floor.undo()
            floor.undo()
            self.assertEqual(floor.history(), (1, 2))
            turn(floor)
            self.assertEqual((floor.history(), told(raised(floor.redo))), ((2, 0), ("NothingLeft", {})))

    def test_wrong_turns_do_not_end_it(self):
        floor = many_rooms(4)
        floor.undo()
        before = seen_of(floor)
        for call, given in ((floor.cut, ("7", "A")), (floor.cut, ("0", "Z")), (floor.cut, ("0", "A", 2, 1)), (floor.unite, ("0",)),
                            (floor.cut_all, (("0", "A", 1, 2), ("0", "A", 1, 2))), (floor.cut_all, (None,)), (floor.unite, ("",)),
                            (floor.set_limit, (0,))):
            raised(call, *given)
            self.assertEqual(seen_of(floor), before)
        floor.redo()
        self.assertEqual(len(floor), 4)

    def test_undo_and_redo_all(self):
        floor = many_rooms(30)
        states = [seen_of(many_rooms(many)) for many in range(1, 31)]
        for left in range(28, -1, -1):
            floor.undo()
            self.assertEqual(floor.history(), (left, 29 - left))
            self.assertEqual((floor.rooms(), floor.cuts()), (states[left]["rooms"], states[left]["cuts"]))
        self.assertEqual(told(raised(floor.undo)), ("NothingLeft", {}))
        for many in range(1, 30):
            floor.redo()
            self.assertEqual((floor.rooms(), floor.cuts()), (states[many]["rooms"], states[many]["cuts"]))
        self.assertEqual(told(raised(floor.redo)), ("NothingLeft", {}))
        self.assertIsInstance(raised(floor.redo), IndexError)

    def test_undo_of_unite_puts_the_cut_back_in_its_order(self):
        floor = Floor(CROSS, "aaaa")
        floor.cut("", "A")
        floor.cut("1", "B")
        floor.cut("0", "A", 2, 3)
        cuts = floor.cuts()
        floor.unite("1")
        self.assertEqual(floor.cuts(), [cuts[0], cuts[2]])
        floor.undo()
        self.assertEqual(floor.cuts(), cuts)
        floor.unite("1")
        floor.cut("1", "B")
        self.assertEqual(floor.cuts(), [cuts[0], cuts[2], cuts[1]])
        self.assertEqual(floor.plain(), [cuts[0], cuts[2], cuts[1]])

    def test_undo_and_redo_do_not_look_at_the_limit(self):
        floor = many_rooms(5)
        for _ in range(3):
            floor.undo()
        floor.limit = 2
        for many in (3, 4, 5):
            floor.redo()
            self.assertEqual((len(floor), floor.limit), (many, 2))
        self.assertEqual(told(raised(floor.cut, "0", "A")), ("Full", {"most": 2}))
        self.assertEqual(told(raised(floor.cut_all, ("0", "A", 1, 2))), ("Full", {"most": 2}))
        self.assertEqual(told(raised(floor.set_limit, 4)), ("InvalidLimit", {"given": 4}))
        self.assertEqual(floor.twin().limit, 2)
        floor.unite("111")
        floor.undo()
        self.assertEqual((len(floor), floor.limit), (5, 2))
        floor.limit = 5
        self.assertEqual(floor.limit, 5)

    def test_full(self):
        for limit in (1, 2, 5, 60, 99):
            floor = many_rooms(limit, limit)
            self.assertEqual(len(floor), limit)
            address = floor.rooms()[-1][0]
            before = seen_of(floor)
            self.assertEqual(told(raised(floor.cut, address, "A")), ("Full", {"most": limit}))
            self.assertEqual(told(raised(floor.cut_all, (address, "A", 1, 2))), ("Full", {"most": limit}))
            self.assertEqual(seen_of(floor), before)

    def test_wrong_cuts_in_their_order(self):
        floor = many_rooms(3, 3)
        before = seen_of(floor)
        for value in any_values() + ["1", "00", "110", "2", ".", "0 ", "01 "]:
            self.assertEqual(told(raised(floor.cut, value, None, None, None)), ("InvalidAddress", {"given": value}))
            self.assertEqual(told(raised(floor.room, value)), ("InvalidAddress", {"given": value}))
            self.assertEqual(told(raised(floor.area, value)), ("InvalidAddress", {"given": value}))
        for value in any_values() + ["AB", "C", "Z", "b"]:
            if value != "A":
                self.assertEqual(told(raised(floor.cut, "0", value, None, None)), ("InvalidCutter", {"given": value}))
        for value in any_values():
            for top, bottom in ((value, 2), (value, value), (1, value)):
                right = all(isinstance(one, int) and not isinstance(one, bool) for one in (top, bottom)) and 0 < top < bottom
                expected = ("Full", {"most": 3}) if right else ("InvalidPlace", {"given": (top, bottom)})
                self.assertEqual(told(raised(floor.cut, "0", "A", top, bottom)), expected)
        for place in ((1, 1), (2, 1), (0, 1), (-1, 1), (-2, -1), (0, 0), (1, True)):
            self.assertEqual(told(raised(floor.cut, "0", "A", *place)), ("InvalidPlace", {"given": place}))
        self.assertIs(raised(floor.cut, "0", "A", True, 2).given[0], True)
        self.assertEqual(seen_of(floor), before)

    def test_wrong_unions(self):
        floor = many_rooms(4)
        before = seen_of(floor)
        for value in any_values() + ["0", "10", "111", "1111", "2", "."]:
            if value != "":
                self.assertEqual(told(raised(floor.unite, value)), ("InvalidAddress", {"given": value}))
        for address in ("", "1"):
            self.assertEqual(told(raised(floor.unite, address)), ("NotUnited", {"given": address}))
        self.assertEqual(seen_of(floor), before)
        self.assertEqual((floor.unite("11"), floor.unite("1"), floor.unite("")), ("A", "B", "A"))
        self.assertEqual(told(raised(floor.unite, "")), ("InvalidAddress", {"given": ""}))
        self.assertEqual((floor.history(), len(floor)), ((6, 0), 1))
        # A cut with one cut part, be it the first or the second one, is not taken back.
        floor = Floor(CROSS, "aaaa")
        floor.cut_all(("", "A", 1, 2), ("0", "B", 1, 2))
        self.assertEqual(told(raised(floor.unite, "")), ("NotUnited", {"given": ""}))

    def test_places_in_lowest_terms(self):
        floor = Floor(CROSS, "aaaa")
        floor.cut("", "A", GREAT - 999, GREAT)
        floor.cut("1", "B", 300000000000000000, 900000000000000000)
        place = Fraction(GREAT - 999, GREAT)
        self.assertEqual(floor.cuts(), [("", "A", place.numerator, place.denominator), ("1", "B", 1, 3)])

    def test_lists_are_new(self):
        floor = many_rooms(4)
        before = seen_of(floor)
        for call in (floor.cuts, floor.plain, floor.rooms, floor.boxes, floor.meeting):
            call().clear()
        floor.side("E").clear()
        floor.seen("A", Ratio(1, 7)).clear()
        floor.cut_all().append(1)
        self.assertEqual(seen_of(floor), before)
        self.assertEqual((len(floor.side("E")), len(floor.meeting())), (2, 5))
        self.assertTrue(all(isinstance(one, tuple) for one in floor.cuts() + floor.rooms() + floor.boxes() + floor.meeting()))
        self.assertIsInstance(floor.history(), tuple)

    def test_walk(self):
        floor = many_rooms(3)
        walk = floor.walk()
        self.assertEqual((next(walk), next(walk), next(walk)), (("0", "aaaa"), ("10", "aabb"), ("11", "aaab")))
        with self.assertRaises(StopIteration):
            next(walk)
        for _ in floor.walk():
            self.assertIs(floor.busy, False)


class CutAll(unittest.TestCase):
    def test_one_step_of_the_history(self):
        for many in range(6):
            floor = Floor(CROSS, "aaaa")
            steps = many_rooms(many + 1).cuts()
            self.assertEqual(floor.cut_all(*steps), [CROSS.cut("aaaa", step[1]) for step in steps])
            self.assertEqual((len(floor), floor.cuts(), floor.history()), (many + 1, steps, (1 if many else 0, 0)))
            self.assertEqual(floor, many_rooms(many + 1))
            if many:
                floor.undo()
                self.assertEqual((len(floor), floor.cuts(), floor.history()), (1, [], (0, 1)))

    def test_wrong_steps(self):
        floor = Floor(THREE, "aaaa", limit=3)
        floor.cut("", "A")
        floor.cut("0", "B")
        floor.undo()
        before = seen_of(floor)
        right = ("0", "A", 1, 2)
        for value in any_values() + self.wrong_steps(right):
            for before_it in ((), (right,), (("", "A", 1, 2),), (("0111", "A", 1, 2), right, right)):
                error = raised(floor.cut_all, *before_it, value, right, None)
                self.assertEqual(told(error), ("InvalidStep", {"at": len(before_it)}), value)
                self.assertEqual(seen_of(floor), before)

    def wrong_steps(self, right):
        found = [list(right), right[:3], right + (1,), (right,), ()]
        for value in any_values() + ["2", ".", "0 1", "AB", "D"]:
            if not isinstance(value, str) or value not in ("",):
                found.append((value, *right[1:]))
            if value != "A":
                found.append((right[0], value, *right[2:]))
        for place in ((0, 2), (2, 2), (3, 2), (True, 2), (1, True), (None, 2), (1, None), ("1", 2), (1, "2"), ([1], 2), (-2, -1)):
            found.append((*right[:2], *place))
        return found

    def test_all_or_none(self):
        floor = Floor(THREE, "aaaa", limit=4)
        floor.cut("", "A")
        before = seen_of(floor)
        for steps, error in (
            ([("0", "A", 1, 2), ("0", "A", 1, 2)], ("InvalidAddress", {"given": "0"})),
            ([("0", "A", 1, 2), ("", "A", 1, 2), ("9", "A", 1, 2)], ("InvalidStep", {"at": 2})),
            ([("00", "A", 1, 2), ("0", "A", 1, 2)], ("InvalidAddress", {"given": "00"})),
            ([("0", "A", 1, 2), ("1", "A", 1, 2), ("00", "B", 1, 2)], ("Full", {"most": 4})),
            ([("0", "A", 1, 2), ("1", "A", 1, 2), ("0", "B", 1, 2)], ("InvalidAddress", {"given": "0"})),
            ([("0", "A", 1, 2), ("1", "A", 1, 2), ("00", "B", 1, 2), ("1", "A", 1, 2)], ("Full", {"most": 4})),
            ([("0", "C", 1, 2), ("01", "C", 1, 2)], ("InvalidAddress", {"given": "01"})),
        ):
            self.assertEqual(told(raised(floor.cut_all, *steps)), error)
            self.assertEqual(seen_of(floor), before)
        self.assertEqual(floor.cut_all(("0", "C", 1, 2), ("0", "A", 1, 2), ("1", "C", 1, 9), ("01", "B", 2, 4), ("00", "C", 1, 2)),
                         ["", "|ab", "", "-ba", ""])
        self.assertEqual((floor.cuts(), floor.history()), ([("", "A", 1, 2), ("0", "A", 1, 2), ("01", "B", 1, 2)], (2, 0)))


class Limits(unittest.TestCase):
    def test_by_both_ways(self):
        floor = many_rooms(5, 60)
        for value in (5, 99, 6, 60):
            floor.limit = value
            self.assertEqual(floor.limit, value)
            floor.set_limit(value=max(value - 1, 5))
            self.assertEqual(floor.limit, max(value - 1, 5))
        for value in any_values() + [0, 1, 4, 100]:
            for call in (floor.set_limit, lambda given: setattr(floor, "limit", given)):
                self.assertEqual(told(raised(call, value)), ("InvalidLimit", {"given": value}))
                self.assertEqual((floor.limit, floor.busy), (59, False))

    def test_no_part_of_the_history(self):
        floor = many_rooms(3, 60)
        floor.undo()
        floor.limit = 10
        self.assertEqual(floor.history(), (1, 1))
        floor.undo()
        self.assertEqual((floor.limit, floor.history()), (10, (0, 2)))
        floor.set_limit(20)
        floor.redo()
        self.assertEqual((floor.limit, floor.history()), (20, (1, 1)))


class Seen(unittest.TestCase):
    def test_against_placed_histories(self):
        draw = random.Random(702)
        for _ in range(90):
            book, start, _ = draw_question(draw, 3)
            floor, model = drawn_floor(draw, book, start, draw.randint(0, 18))
            steps = floor.plain()
            history = [step[:2] for step in steps]
            laid = laid_out(book, start, model.cuts)
            self.assertEqual(floor.boxes(), placed(book, start, floor.cuts()))
            self.assertEqual(floor.meeting(), meeting(book, start, steps))
            self.assertEqual(floor.meeting(), meeting_out(laid))
            for view in "NESW":
                row = list(rows_seen(book, start, history, view))[0]
                self.assertEqual(floor.side(view), row)
                strand = floor.side_strand(view)
                self.assertIsInstance(strand, Strand)
                self.assertEqual((strand.book, strand.start, strand.view), (book, start, view))
                self.assertEqual((strand.holds(), strand.addresses()), (True, row))
                self.assertEqual(strand, strand_of(book, start, history, view))
                self.assertEqual(floor.side_strand(view=view).history(), strand.history())
            for address, room in floor.rooms():
                self.assertEqual(floor.room(address), room)
                _, west, north, east, south = laid[address]
                area = (east - west) * (south - north)
                self.assertEqual(floor.area(address=address), Ratio(area.numerator, area.denominator))
            for at in (Ratio(1, 2), Ratio(1, 97), Ratio(50, 101), Ratio(2, 3)):
                for view in "AD":
                    self.assertEqual(outcome(floor.seen, view, at), outcome(walk_at, book, start, steps, view, at))

    def test_by_hand(self):
        floor = Floor(CROSS, "aaaa")
        floor.cut("", "A", 1, 3)
        floor.cut("1", "B")
        self.assertEqual((floor.side("N"), floor.side("E"), floor.side("S"), floor.side(view="W")),
                         (["0", "10"], ["10", "11"], ["0", "11"], ["0"]))
        self.assertEqual(floor.meeting(), [("-", "10", "11"), ("|", "0", "10"), ("|", "0", "11")])
        self.assertEqual((floor.seen("A", Ratio(1, 4)), floor.seen(at=Ratio(3, 4), view="D")), (["0", "10"], ["10", "11"]))
        self.assertEqual((floor.room("10"), floor.area("10"), floor.area("0").text()), ("aabb", Ratio(1, 3), "1/3"))
        self.assertEqual(floor.side_strand("E").text(), "aabbaaab")

    def test_wrong_views_and_ratios(self):
        floor = many_rooms(3)
        before = seen_of(floor)
        for value in any_values() + ["n", "NE", "D", "X", "V"]:
            self.assertEqual(told(raised(floor.side, value)), ("InvalidView", {"given": value}))
            self.assertEqual(told(raised(floor.side_strand, value)), ("InvalidView", {"given": value}))
            if value not in ("A", "D"):
                self.assertEqual(told(raised(floor.seen, value, None)), ("InvalidView", {"given": value}))
        for view in "NESW":
            self.assertEqual(told(raised(floor.seen, view, Ratio(1, 3))), ("InvalidView", {"given": view}))
        for value in any_values() + [Ratio(0), Ratio(1), Ratio(-1, 2), Ratio(3, 2)]:
            if value != Ratio(1, 2):
                self.assertEqual(told(raised(floor.seen, "A", value)), ("InvalidRatio", {"given": value}))
        self.assertEqual(told(raised(floor.seen, "A", Ratio(1, 2))), ("InvalidRatio", {"given": Ratio(1, 2)}))
        self.assertEqual(told(raised(floor.seen, "D", Ratio(2, 4))), ("InvalidRatio", {"given": Ratio(1, 2)}))
        self.assertEqual(seen_of(floor), before)


class Twins(unittest.TestCase):
    def test_turns_of_both(self):
        draw = random.Random(703)
        for _ in range(60):
            book, start, _ = draw_question(draw, 3)
            floor, model = drawn_floor(draw, book, start, draw.randint(0, 14))
            pairs = [(floor, model), (floor.twin(), model.twin())]
            self.assertIsNot(pairs[1][0], floor)
            self.assertEqual(pairs[1][0], floor)
            self.assertEqual(seen_of(pairs[1][0]), seen_of(floor))
            for _ in range(14):
                one, other = draw.sample(pairs, 2)
                before = seen_of(other[0])
                do_turn(self, *one, draw_turn(draw, one[1]))
                self.assertEqual(seen_of(other[0]), before)
                same = sorted(one[1].cuts) == sorted(other[1].cuts)
                self.assertEqual((one[0] == other[0], one[0] != other[0]), (same, not same))

    def test_undone_steps_are_those_of_both(self):
        floor = many_rooms(6)
        floor.undo()
        floor.undo()
        other = floor.twin()
        self.assertEqual((other.history(), other.book, other.start, other.limit, other.busy), ((3, 2), CROSS, "aaaa", 99, False))
        other.redo()
        other.redo()
        self.assertEqual((len(other), other.history(), len(floor), floor.history()), (6, (5, 0), 4, (3, 2)))
        floor.cut("0", "B")
        self.assertEqual((other.history(), floor.history()), ((5, 0), (4, 0)))
        floor.limit = 50
        self.assertEqual(other.limit, 99)
        for _ in range(5):
            other.undo()
        self.assertEqual((len(other), len(floor)), (1, 5))

    def test_equality(self):
        floor = many_rooms(4)
        for other in (many_rooms(3), many_rooms(5), Floor(CROSS, "aaaa"), Floor(CROSS, "aaab"), Floor(THREE, "aaaa"),
                      many_rooms(4, book=THREE), *any_values(), floor.plain(), floor.rooms()):
            self.assertIs(floor == other, False)
            self.assertIs(floor != other, True)
            self.assertIs(other == floor, False)
        # The limit, the order of the cuts and what could be undone do not matter.
        other = Floor(CROSS, "aaaa", limit=7)
        other.cut_all(*floor.cuts())
        self.assertIs(floor == other, True)
        self.assertIs(floor != other, False)
        one, other = Floor(CROSS, "aaaa"), Floor(CROSS, "aaaa")
        one.cut_all(("", "A", 1, 2), ("0", "A", 1, 3), ("1", "B", 1, 3))
        other.cut_all(("", "A", 2, 4), ("1", "B", 2, 6), ("0", "A", 1, 3))
        self.assertNotEqual(one.cuts(), other.cuts())
        self.assertIs(one == other, True)
        other.unite("0")
        self.assertIs(one == other, False)
        other.cut("0", "A", 1, 4)
        self.assertIs(one == other, False)
        for given in (("aaab", CROSS), ("bbbb", CROSS), ("aaaa", Book("ab", "AB", *CROSS.lines(), (*ANY, ".", "")))):
            other = Floor(given[1], given[0])
            other.cut_all(*floor.cuts())
            self.assertEqual(other.plain(), floor.plain())
            self.assertIs(floor == other, False)
        # Unlike cutters that cut alike make unlike floors.
        twice = Book("ab", "AB", (*ANY, ".", "|ab"))
        one, other = Floor(twice, "aaaa"), Floor(twice, "aaaa")
        one.cut("", "A")
        other.cut("", "B")
        self.assertIs(one == other, False)


class Busy(unittest.TestCase):
    def test_false_behind_each_call(self):
        floor = many_rooms(4, 4)
        calls = [(floor.cut, ("0", "A")), (floor.cut, ("9", "A")), (floor.cut_all, (1,)), (floor.cut_all, ()), (floor.unite, ("",)),
                 (floor.unite, ("11",)), (floor.undo, ()), (floor.redo, ()), (floor.redo, ()), (floor.set_limit, (0,)),
                 (floor.set_limit, (9,)), (floor.side, ("A",)), (floor.seen, ("A", 1)), (floor.room, (None,)), (floor.area, ("9",)),
                 (floor.twin, ()), (floor.side_strand, ("N",)), (floor.meeting, ()), (floor.boxes, ()), (floor.history, ())]
        for call, given in calls:
            outcome(call, *given)
            self.assertIs(floor.busy, False)
        while floor.history()[0]:
            floor.undo()
            self.assertIs(floor.busy, False)
        raised(floor.undo)
        self.assertIs(floor.busy, False)

    def test_true_while_a_call_is_at_work(self):
        told_by = []

        class Watched(Book):
            def cut(self, room, cutter):
                told_by.append(floor.busy)
                return Book.cut(self, room, cutter)

        floor = None
        book = Watched("ab", "AB", *CROSS.lines())
        floor = Floor(CROSS, "aaaa")
        floor.book = book
        floor.cut("", "A")
        floor.cut_all(("0", "A", 1, 2), ("1", "B", 1, 2))
        floor.unite("1")
        self.assertEqual(set(told_by), {True})


if __name__ == "__main__":
    unittest.main()
