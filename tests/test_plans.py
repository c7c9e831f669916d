"""Placed histories: exact places, rooms that meet, and walks."""

import random
import unittest
from fractions import Fraction

from fourwalls.books import Book
from fourwalls.plans import meeting, placed, walk_at
from fourwalls.ratios import Ratio
from fourwalls.rooms import play
from fourwalls.views import rows_seen
from samples import (
    CHARACTERS, CROSS, RICH, any_values, draw_book, draw_question, draw_steps, laid_out, meeting_out, raised, told,
)

GREAT = 999999999999999999
STEPS = [("", "A", 1, 3), ("1", "B", 1, 2)]
CALLS = (placed, meeting, lambda book, start, steps: walk_at(book, start, steps, None, None))


def fractions_of(rows):
    """Return the rows of placed with fractions in the place of ratios, by addresses."""
    return {row[0]: (row[1], *[Fraction(ratio.top, ratio.bottom) for ratio in row[2:]]) for row in rows}


def great_places(draw):
    """Return places with small and very great numbers."""
    places = [(1, 2), (1, GREAT), (GREAT - 1, GREAT), (2, 6)]
    for _ in range(8):
        bottom = draw.randint(2, GREAT)
        places.append((draw.randint(1, bottom - 1), bottom))
    return places


def wrong_steps(step):
    """Return values that are no placed steps of CROSS behind no step, made of a right one."""
    address, cutter, top, bottom = step
    wrong = any_values() + [list(step), step[:3], step + (1,), step[:2], (), (step,), [step]]
    for value in any_values() + CHARACTERS + ["0", "1", "00", "AB", "C", "a"]:
        if value != "":
            wrong.append((value, cutter, top, bottom))
        if value not in ("A", "B"):
            wrong.append((address, value, top, bottom))
        if not isinstance(value, int) or isinstance(value, bool):
            wrong += [(address, cutter, value, bottom), (address, cutter, top, value)]
    for pair in ((0, 2), (2, 2), (3, 2), (-1, 2), (1, 1), (1, 0), (1, -2), (-2, -1), (-1, -2), (0, 0), (True, 2), (1, True),
                 (GREAT, GREAT), (GREAT, 1), (False, 1)):
        wrong.append((address, cutter) + pair)
    return wrong


class Placed(unittest.TestCase):
    def test_example_by_hand(self):
        rows = placed(CROSS, "aaaa", STEPS)
        third, half = Ratio(1, 3), Ratio(1, 2)
        self.assertEqual(rows, [
            ("0", "aaaa", Ratio(0), Ratio(0), third, Ratio(1)), ("10", "aabb", third, Ratio(0), Ratio(1), half),
            ("11", "aaab", third, half, Ratio(1), Ratio(1))])
        self.assertEqual(placed(CROSS, "abab", ()), [("", "abab", Ratio(0), Ratio(0), Ratio(1), Ratio(1))])
        self.assertIsInstance(rows[0], tuple)
        self.assertEqual(placed(steps=STEPS, start="aaaa", book=CROSS), rows)

    def test_against_fractions(self):
        draw = random.Random(101)
        for _ in range(250):
            book, start, _ = draw_question(draw, 6)
            steps = draw_steps(draw, book, start, 10, great_places(draw))
            before = list(steps)
            rows = placed(book, start, draw.choice((list, tuple))(steps))
            self.assertEqual(steps, before)
            self.assertEqual([(row[0], row[1]) for row in rows], play(book, start, [step[:2] for step in steps]))
            self.assertEqual(fractions_of(rows), laid_out(book, start, steps))
            areas = [(row[4] - row[2]) * (row[5] - row[3]) for row in rows]
            total = Ratio(0)
            for area in areas:
                self.assertTrue(Ratio(0).is_below(area))
                total = total + area
            self.assertEqual(total, Ratio(1))

    def test_cutters_that_go_away(self):
        book = CROSS.muted(1)
        steps = [("", "B", 1, 9), ("", "A", 1, 3), ("1", "B", 1, 2), ("1", "A", 1, 2), ("0", "B", 1, 2)]
        self.assertEqual(placed(book, "aaaa", steps), placed(book, "aaaa", [steps[1], steps[3]]))

    def test_new_lists(self):
        rows = placed(CROSS, "aaaa", STEPS)
        rows.clear()
        self.assertEqual(len(placed(CROSS, "aaaa", STEPS)), 3)

    def test_many_steps(self):
        steps = [("1" * at, "A", 1, 2) for at in range(300)]
        rows = placed(CROSS, "aaaa", steps)
        self.assertEqual((rows[0][4], rows[-1][2]), (Ratio(1, 2), Ratio(1) - Ratio(1, 2 ** 300)))


class Refused(unittest.TestCase):
    def test_starts(self):
        for value in any_values() + ["aaac", "aaa", "aaaaa", ""]:
            if value != "aaaa":
                for call in CALLS:
                    self.assertEqual(told(raised(call, CROSS, value, None)), ("InvalidRoom", {"given": value}))

    def test_steps_that_are_no_list(self):
        for value in any_values():
            if not isinstance(value, (list, tuple)):
                for call in CALLS:
                    self.assertEqual(told(raised(call, CROSS, "aaaa", value)), ("InvalidStep", {"at": -1}))

    def test_wrong_items(self):
        for step in (("", "A", 1, 2), ("", "B", 4, GREAT)):
            for value in wrong_steps(step):
                for call in CALLS:
                    self.assertEqual(told(raised(call, CROSS, "aaaa", [value])), ("InvalidStep", {"at": 0}), value)
                    error = raised(call, CROSS, "aaaa", (value, step, None))
                    self.assertEqual(told(error), ("InvalidStep", {"at": 0}))

    def test_first_wrong_item_of_drawn_histories(self):
        draw = random.Random(102)
        for _ in range(150):
            book, start, _ = draw_question(draw, 4)
            steps = draw_steps(draw, book, start, 8)
            at = draw.randint(0, len(steps))
            rooms = dict(play(book, start, [step[:2] for step in steps[:at]]))
            gone = [step[0] for step in steps[:at] if step[0] not in rooms] + ["2", "0" * 12, max(rooms) + "0"]
            stands, cutter = draw.choice(sorted(rooms)), draw.choice(book.cutters)
            wrong = draw.choice([(draw.choice(gone), cutter, 1, 2), (stands, "Z", 1, 2), (stands, cutter, 2, 2), None,
                                 (stands, cutter, 0, 1), [stands, cutter, 1, 2], (stands, cutter, 1)])
            for bent in (steps[:at] + [wrong], steps[:at] + [wrong, ("", "A", 0, 0)], steps[:at] + [wrong] + steps[at:]):
                for call in CALLS:
                    self.assertEqual(told(raised(call, book, start, bent)), ("InvalidStep", {"at": at}))
            self.assertEqual(len(placed(book, start, steps[:at])), len(rooms))


class Meeting(unittest.TestCase):
    def test_example(self):
        found = meeting(CROSS, "aaaa", STEPS)
        self.assertEqual(found, [("-", "10", "11"), ("|", "0", "10"), ("|", "0", "11")])
        self.assertEqual(meeting(steps=[], start="aaaa", book=CROSS), [])

    def test_one_point_in_common(self):
        # Four rooms round one point: those that are opposite do not meet.
        steps = [("", "A", 1, 2), ("0", "B", 1, 2), ("1", "B", 1, 2)]
        expected = [("-", "00", "01"), ("-", "10", "11"), ("|", "00", "10"), ("|", "01", "11")]
        self.assertEqual(meeting(CROSS, "aaaa", steps), expected)
        steps[2] = ("1", "B", 2, 3)
        self.assertEqual(meeting(CROSS, "aaaa", steps), sorted(expected + [("|", "01", "10")]))
        steps[2] = ("1", "B", 1, 3)
        self.assertEqual(meeting(CROSS, "aaaa", steps), sorted(expected + [("|", "00", "11")]))
        steps = [("", "B", 1, 2), ("0", "A", 1, 2), ("1", "A", 2, 4)]
        expected = [("-", "00", "10"), ("-", "01", "11"), ("|", "00", "01"), ("|", "10", "11")]
        self.assertEqual(meeting(CROSS, "aaaa", steps), expected)

    def test_against_fractions(self):
        draw = random.Random(103)
        signs = set()
        for _ in range(300):
            book, start, _ = draw_question(draw, 4)
            steps = draw_steps(draw, book, start, 10)
            found = meeting(book, start, steps)
            signs |= {triple[0] for triple in found}
            self.assertEqual(found, meeting_out(laid_out(book, start, steps)))
        self.assertEqual(signs, {"|", "-"})
        for _ in range(60):
            steps = draw_steps(draw, CROSS, "aaaa", 10, ((1, 2),))
            self.assertEqual(meeting(CROSS, "aaaa", steps), meeting_out(laid_out(CROSS, "aaaa", steps)))

    def test_new_list(self):
        meeting(CROSS, "aaaa", STEPS).clear()
        self.assertEqual(len(meeting(CROSS, "aaaa", STEPS)), 3)


class Walks(unittest.TestCase):
    def test_example(self):
        self.assertEqual(walk_at(CROSS, "aaaa", STEPS, "A", Ratio(1, 4)), ["0", "10"])
        self.assertEqual(walk_at(CROSS, "aaaa", STEPS, "A", Ratio(3, 4)), ["0", "11"])
        self.assertEqual(walk_at(CROSS, "aaaa", STEPS, "D", Ratio(1, 4)), ["0"])
        self.assertEqual(walk_at(view="D", at=Ratio(1, 2), steps=STEPS, start="aaaa", book=CROSS), ["10", "11"])

    def test_on_a_stretch(self):
        for view, top, bottom in (("A", 1, 2), ("A", 5, 10), ("D", 1, 3)):
            at = Ratio(top, bottom)
            error = raised(walk_at, CROSS, "aaaa", STEPS, view, at)
            self.assertEqual(told(error), ("InvalidRatio", {"given": at}))
            self.assertIs(error.given, at)
        # A stretch of the other sign at this place refuses nothing.
        self.assertEqual(walk_at(CROSS, "aaaa", STEPS, "A", Ratio(1, 3)), ["0", "10"])
        self.assertEqual(walk_at(CROSS, "aaaa", STEPS, "D", Ratio(1, 2)), ["10", "11"])

    def test_stretch_of_one_part_alone(self):
        # Also a stretch at the other end of the floor lies at its place.
        steps = [("", "A", 1, 2), ("0", "B", 1, 4), ("1", "B", 3, 4), ("11", "A", 1, 2)]
        for top in (1, 3):
            self.assertEqual(told(raised(walk_at, CROSS, "aaaa", steps, "A", Ratio(top, 4))),
                             ("InvalidRatio", {"given": Ratio(top, 4)}))
            self.assertEqual(len(walk_at(CROSS, "aaaa", steps, "D", Ratio(top, 8))), 2)
        self.assertEqual(walk_at(CROSS, "aaaa", steps, "A", Ratio(1, 2)), ["01", "10"])
        self.assertEqual(walk_at(CROSS, "aaaa", steps, "A", Ratio(7, 8)), ["01", "110", "111"])

    def test_places_against_fractions_and_rows(self):
        draw = random.Random(104)
        for _ in range(150):
            book, start, _ = draw_question(draw, 4)
            steps = draw_steps(draw, book, start, 10)
            floor = laid_out(book, start, steps)
            for view, low, high, order in (("A", 2, 4, 1), ("D", 1, 3, 2)):
                rows = list(rows_seen(book, start, [step[:2] for step in steps], view))
                ends = sorted({row[low] for row in floor.values()} | {row[high] for row in floor.values()})
                for end in ends:
                    at = Ratio(end.numerator, end.denominator)
                    error = raised(walk_at, book, start, steps, view, at)
                    self.assertEqual(told(error), ("InvalidRatio", {"given": at}))
                for one, other in zip(ends, ends[1:]):
                    at = one + (other - one) * Fraction(draw.randint(1, 8), 9)
                    through = [(row[order], address) for address, row in floor.items() if row[low] < at < row[high]]
                    row = walk_at(book, start, steps, view, Ratio(at.numerator, at.denominator))
                    self.assertEqual(row, [address for _, address in sorted(through)])
                    self.assertIn(row, rows)

    def test_each_row_is_seen_at_some_places(self):
        draw = random.Random(105)
        for _ in range(25):
            book = draw_book(draw, "ab", "AB", 4)
            history = draw_steps(draw, book, "aaaa", 4, ((1, 2),))
            plain = [step[:2] for step in history]
            for view in "AD":
                rows = list(rows_seen(book, "aaaa", plain, view))
                seen = []
                for k in range(7 ** len(plain)):
                    steps = [step + ((k // 7 ** at % 7) + 1, 8) for at, step in enumerate(plain)]
                    for top in (1, 3, 5, 7, 9, 11, 13, 15):
                        at = Ratio(top * 1009 + 1, 16 * 1009)
                        row = walk_at(book, "aaaa", steps, view, at)
                        if row not in seen:
                            seen.append(row)
                    if len(seen) == len(rows):
                        break
                self.assertEqual(sorted(seen), rows)

    def test_views(self):
        for value in any_values() + CHARACTERS + ["AD", "DA"]:
            if value not in ("A", "D"):
                for at in (None, Ratio(1, 2), Ratio(0)):
                    error = raised(walk_at, CROSS, "aaaa", STEPS, value, at)
                    self.assertEqual(told(error), ("InvalidView", {"given": value}))

    def test_ratios(self):
        outside = [Ratio(0), Ratio(1), Ratio(-1, 2), Ratio(3, 2), Ratio(GREAT), Ratio(-GREAT), Ratio(-1, GREAT)]
        for view in "AD":
            for value in any_values() + outside:
                if not (isinstance(value, Ratio) and value == Ratio(1, 2)):
                    for steps in (STEPS, []):
                        error = raised(walk_at, CROSS, "aaaa", steps, view, value)
                        self.assertEqual(told(error), ("InvalidRatio", {"given": value}))
            for inside in (Ratio(1, GREAT), Ratio(GREAT - 1, GREAT), Ratio(1, 2)):
                self.assertEqual(walk_at(CROSS, "aaaa", [], view, inside), [""])

    def test_order_of_errors(self):
        self.assertEqual(told(raised(walk_at, CROSS, "x", 5, 5, 5)), ("InvalidRoom", {"given": "x"}))
        self.assertEqual(told(raised(walk_at, CROSS, "aaaa", 5, 5, 5)), ("InvalidStep", {"at": -1}))
        self.assertEqual(told(raised(walk_at, CROSS, "aaaa", [5], 5, 5)), ("InvalidStep", {"at": 0}))
        self.assertEqual(told(raised(walk_at, CROSS, "aaaa", STEPS, 5, 5)), ("InvalidView", {"given": 5}))
        self.assertEqual(told(raised(walk_at, CROSS, "aaaa", STEPS, "A", 5)), ("InvalidRatio", {"given": 5}))

    def test_new_lists(self):
        walk_at(CROSS, "aaaa", STEPS, "A", Ratio(1, 4)).clear()
        self.assertEqual(walk_at(CROSS, "aaaa", STEPS, "A", Ratio(1, 4)), ["0", "10"])


class Books(unittest.TestCase):
    def test_rich_book(self):
        steps = [("", "A", 1, 4), ("1", "C", 1, 2), ("10", "C", 1, 3)]
        for start in ("aaaa", "abca", "bacb"):
            history = []
            for step in steps:
                if step[0] in dict(play(RICH, start, [one[:2] for one in history])):
                    history.append(step)
            self.assertEqual(fractions_of(placed(RICH, start, history)), laid_out(RICH, start, history))

    def test_book_without_lines(self):
        book = Book("a", "A")
        self.assertEqual(len(placed(book, "aaaa", [("", "A", 1, 2)] * 5)), 1)


if __name__ == "__main__":
    unittest.main()
