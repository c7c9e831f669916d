"""Touch, touching and touch_of."""

import random
import unittest

from fourwalls.books import Book
from fourwalls.papers import Paper
from fourwalls.plans import meeting, placed
from fourwalls.rooms import reached
from fourwalls.touch import Touch, touch_of, touching
from fourwalls.views import members
from samples import (
    CHARACTERS, CROSS, RICH, RULES, all_histories, any_values, draw_question, draw_room, draw_steps, laid_out, meeting_out,
    named, raised, told,
)

UPRIGHT = Book("ab", "A", (".", ".", ".", ".", "A", "|ab"))
STEPS = [("", "A", 1, 3), ("1", "B", 1, 2)]
VIEWS = {"|": "EW", "-": "SN"}


def can_meet(book, start):
    """Return the sorted triples of the rooms that can meet, straight from the fact of [14]."""
    found = set()
    for room in reached(book, start):
        for cutter in book.cutters:
            cut = book.cut(room, cutter)
            if cut:
                first, second = book.parts(room, cutter)
                one, other = VIEWS[cut[0]]
                found |= {(cut[0], x, y) for x in members(book, first, one) for y in members(book, second, other)}
    return sorted(found)


def met_behind(book, start, cuts):
    """Return the triples of the rooms that meet behind some placed history with this number of cuts."""
    found = set()
    for history in all_histories(book, start, cuts):
        floor = laid_out(book, start, [step + (1, 2) for step in history])
        signs = {}
        for address, cutter in history:
            before = [step + (1, 2) for step in history if step[0] != address and not step[0].startswith(address)]
            signs[address] = book.cut(laid_out(book, start, before)[address][0], cutter)[0]
        for address, sign in signs.items():
            sides = []
            for index, view in enumerate(VIEWS[sign]):
                sides.append([one for one in floor if one.startswith(address + str(index))
                              and on_side(signs, one, len(address) + 1, view)])
            found |= {(sign, floor[one][0], floor[other][0]) for one in sides[0] for other in sides[1]}
    return found


def on_side(signs, address, size, view):
    """Tell whether a room stands along a side of the part of which the address has this size."""
    for at in range(size, len(address)):
        if address[at] not in named(RULES[signs[address[:at]]][view], "0", "1"):
            return False
    return True


class Papers(unittest.TestCase):
    def test_right_touches(self):
        for sign, one, other, rooms in (("|", "0", "10", ["aaaa", "aabb"]), ("|", "0", "11", ["aaaa", "aaab"]),
                                        ("-", "10", "11", ["aabb", "aaab"])):
            for steps in (STEPS, tuple(STEPS)):
                paper = Touch(CROSS, "aaaa", sign, steps, one, other)
                self.assertEqual((paper.holds(), paper.rooms(), paper.steps()), (True, rooms, STEPS))
                self.assertEqual(paper.told(), f"touch {rooms[0]} {sign} {rooms[1]}")
                self.assertEqual((paper.holds(), paper.rooms()), (True, rooms))
            self.assertEqual((paper.book, paper.start, paper.sign, paper.one, paper.other), (CROSS, "aaaa", sign, one, other))
            self.assertEqual((Touch.WORD, repr(paper), isinstance(paper, Paper)), ("touch", "Paper(touch)", True))
            for bent in ((sign, other, one), ("|-".replace(sign, ""), one, other), (sign, one, one)):
                paper = Touch(CROSS, "aaaa", bent[0], STEPS, bent[1], bent[2])
                self.assertEqual((paper.holds(), paper.rooms(), paper.told()), (False, None, "touch"))
        paper = Touch(other="1", one="0", steps=[("", "A", 1, 2)], sign="|", start="aaaa", book=CROSS)
        self.assertEqual(paper.told(), "touch aaaa | aaab")

    def test_methods_are_those_of_the_class_itself(self):
        for name in ("steps", "rooms", "told", "holds", "WORD"):
            self.assertIn(name, vars(Touch))

    def test_returned_lists_are_new(self):
        paper = Touch(CROSS, "aaaa", "|", STEPS, "0", "10")
        paper.rooms().clear()
        paper.steps().clear()
        self.assertEqual((paper.rooms(), paper.steps()), (["aaaa", "aabb"], STEPS))

    def test_drawn_histories(self):
        draw = random.Random(111)
        count = {True: 0, False: 0}
        for _ in range(150):
            book, start, _ = draw_question(draw, 4)
            steps = draw_steps(draw, book, start, 6)
            floor = laid_out(book, start, steps)
            triples = meeting_out(floor)
            for sign in "|-":
                for one in floor:
                    for other in floor:
                        right = (sign, one, other) in triples
                        count[right] += 1
                        paper = Touch(book, start, sign, steps, one, other)
                        rooms = [floor[one][0], floor[other][0]] if right else None
                        self.assertEqual((paper.holds(), paper.rooms()), (right, rooms))
                        self.assertEqual(paper.told(), f"touch {rooms[0]} {sign} {rooms[1]}" if right else "touch")
        self.assertGreater(min(count.values()), 200)

    def test_any_value_at_each_place(self):
        right = {"start": "aaaa", "sign": "|", "steps": STEPS, "one": "0", "other": "10"}
        more = ["1", "00", "000", "2", "0 ", "|-", "--", "/", "aaab ", "10", "11"]
        for value in any_values() + CHARACTERS + more:
            for name in right:
                given = {**right, name: value}
                paper = Touch(CROSS, **given)
                kept = paper.steps() if name == "steps" else getattr(paper, name)
                expected = list(value) if name == "steps" and isinstance(value, (list, tuple)) else value
                self.assertEqual(repr(kept), repr(expected))
                if (name, value) in (("one", "0"), ("other", "10"), ("other", "11"), ("sign", "|"), ("start", "aaaa")):
                    continue
                self.assertEqual((paper.holds(), paper.rooms(), paper.told()), (False, None, "touch"), (name, value))
                self.assertEqual(repr(paper), "Paper(touch)")
            paper = Touch(CROSS, value, value, value, value, value)
            self.assertIs(paper.holds(), False)

    def test_bent_steps(self):
        book = CROSS
        for at, step in enumerate(STEPS):
            for place in range(4):
                for value in any_values() + ["Z", "AB", "00", "2", 3, 0, -1]:
                    bent = STEPS[:at] + [step[:place] + (value,) + step[place + 1:]] + STEPS[at + 1:]
                    paper = Touch(book, "aaaa", "|", bent, "0", "10")
                    self.assertIs(paper.holds(), self.is_right(book, bent, "0", "10"), bent)
            for value in any_values() + [list(step), step[:3], step + (1,), ()]:
                for bent in (STEPS[:at] + [value] + STEPS[at:], STEPS[:at] + [value] + STEPS[at + 1:]):
                    self.assertIs(Touch(book, "aaaa", "|", bent, "0", "10").holds(), False)
            self.assertIs(Touch(book, "aaaa", "|", STEPS + [step], "0", "10").holds(), False)
        self.assertIs(Touch(book, "aaaa", "|", STEPS + [None], "0", "10").holds(), False)
        self.assertIs(Touch(book, "aaaa", "|", [], "", "").holds(), False)

    def is_right(self, book, steps, one, other):
        """Tell whether steps are a placed history behind which two rooms meet across an upright stretch."""
        try:
            return ("|", one, other) in meeting(book, "aaaa", steps)
        except ValueError:
            return False

    def test_lists_are_copied(self):
        inside = [1]
        value = [("", inside), [inside, 2]]
        paper = Touch(CROSS, inside, inside, value, inside, [inside])
        inside.append(3)
        value.append(4)
        self.assertEqual((paper.start, paper.sign, paper.one, paper.other), ([1], [1], [1], [[1]]))
        self.assertEqual(paper.steps(), [("", [1]), [[1], 2]])
        paper.steps()[0][1].append(5)
        paper.steps()[1].append(5)
        self.assertEqual(paper.steps(), [("", [1]), [[1], 2]])

    def test_other_books_and_starts(self):
        for book, start, rooms in ((CROSS, "abab", ["aaab", "abbb"]), (CROSS, "bbbb", ["babb", "bbbb"]),
                                   (CROSS.muted(1), "aaaa", None), (CROSS, "aaac", None), (CROSS, "aaa", None)):
            paper = Touch(book, start, "|", STEPS, "0", "10")
            self.assertEqual(paper.rooms(), self.rooms_of(book, start) if rooms else None)
            self.assertIs(paper.holds(), rooms is not None)

    def rooms_of(self, book, start):
        floor = laid_out(book, start, STEPS)
        return [floor["0"][0], floor["10"][0]]


class Touching(unittest.TestCase):
    def test_example(self):
        self.assertEqual(touching(UPRIGHT, "aaaa"), [("|", "aaaa", "aaab"), ("|", "aaab", "aaab")])
        self.assertEqual(touching(start="aaaa", book=Book("ab", "A")), [])

    def test_against_the_fact(self):
        draw = random.Random(112)
        sizes = set()
        for _ in range(150):
            book, start, _ = draw_question(draw, 6)
            found = touching(book, start)
            sizes.add(len(found))
            self.assertEqual(found, can_meet(book, start))
            self.assertEqual(found, touching(Book.read(book.text()), start))
        self.assertGreater(len(sizes), 20)
        for start in ("aaaa", "bacb", "cbca"):
            self.assertEqual(touching(RICH, start), can_meet(RICH, start))

    def test_against_drawn_histories(self):
        draw = random.Random(113)
        for _ in range(100):
            book, start, _ = draw_question(draw, 4)
            found = set(touching(book, start))
            for _ in range(4):
                steps = draw_steps(draw, book, start, 9)
                rooms = {row[0]: row[1] for row in placed(book, start, steps)}
                for sign, one, other in meeting(book, start, steps):
                    self.assertIn((sign, rooms[one], rooms[other]), found)

    def test_new_list(self):
        touching(UPRIGHT, "aaaa").clear()
        self.assertEqual(len(touching(UPRIGHT, "aaaa")), 2)

    def test_wrong_start(self):
        for value in any_values() + ["aaac", "aaa", "aaaaa"]:
            if value != "aaaa":
                self.assertEqual(told(raised(touching, CROSS, value)), ("InvalidRoom", {"given": value}))


class TouchOf(unittest.TestCase):
    def test_example(self):
        found = touch_of(UPRIGHT, "aaaa", "|", "aaab", "aaab")
        self.assertEqual((found.told(), len(found.steps())), ("touch aaab | aaab", 2))
        self.assertIsNone(touch_of(UPRIGHT, "aaaa", "-", "aaaa", "aaaa"))

    def test_all_triples(self):
        draw = random.Random(114)
        for _ in range(60):
            book, start, _ = draw_question(draw, 3)
            triples = touching(book, start)
            for sign, first, second in draw.sample(triples, min(len(triples), 12)):
                paper = touch_of(book, start, sign, first, second)
                self.assertEqual((paper.book, paper.start, paper.sign), (book, start, sign))
                self.assertIs(paper.holds(), True)
                self.assertEqual((paper.rooms(), paper.told()), ([first, second], f"touch {first} {sign} {second}"))
                again = touch_of(second=second, first=first, sign=sign, start=start, book=Book.read(book.text()))
                self.assertEqual((again.steps(), again.one, again.other), (paper.steps(), paper.one, paper.other))
            for _ in range(20):
                triple = (draw.choice("|-"), draw_room(draw, book.faces), draw_room(draw, book.faces))
                paper = touch_of(book, start, *triple)
                self.assertEqual(paper is None, triple not in triples)

    def test_as_few_steps_as_possible(self):
        draw = random.Random(115)
        most = {}
        for _ in range(60):
            book, start, _ = draw_question(draw, 3)
            met = {}
            for cuts in range(1, 4):
                for triple in met_behind(book, start, cuts):
                    met.setdefault(triple, cuts)
            for triple in touching(book, start)[:150]:
                steps = len(touch_of(book, start, *triple).steps())
                self.assertEqual(steps if steps < 4 else None, met.get(triple))
                most[steps] = most.get(steps, 0) + 1
        self.assertTrue({1, 2, 3, 4, 5} <= set(most))

    def test_long_legs(self):
        # Each level cut of the walls beside the stretch changes a face, so both rooms come late.
        book = Book("abcdef", "AB", *[(".", ".", face, ".", "B", f"-{other}{other}") for face, other in zip("abcde", "bcdef")],
                    (".", "a", "a", "a", "A", "|bb"))
        for first, second in (("abfa", "aafb"), ("fbfa", "aafb"), ("abfa", "fabb"), ("ebfa", "cafb"), ("dbea", "aaab")):
            paper = touch_of(book, "aaaa", "|", first, second)
            if paper is not None:
                self.assertEqual((paper.holds(), paper.rooms()), (True, [first, second]))
        self.assertEqual(len(touch_of(book, "aaaa", "|", "abfa", "aafb").steps()), 11)

    def test_errors_in_their_order(self):
        for value in any_values() + CHARACTERS + ["aaac", "aaa", "||", "|-"]:
            if value != "aaaa":
                self.assertEqual(told(raised(touch_of, CROSS, value, None, None, None)), ("InvalidRoom", {"given": value}))
                self.assertEqual(told(raised(touch_of, CROSS, "aaaa", "|", value, None)), ("InvalidRoom", {"given": value}))
                self.assertEqual(told(raised(touch_of, CROSS, "aaaa", "-", "bbbb", value)), ("InvalidRoom", {"given": value}))
            if value not in ("|", "-"):
                error = raised(touch_of, CROSS, "aaaa", value, None, None)
                self.assertEqual(told(error), ("InvalidSign", {"given": value}))


if __name__ == "__main__":
    unittest.main()
