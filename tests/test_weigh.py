"""Peak, Rise and greatest."""

import random
import unittest

from fourwalls.books import Book
from fourwalls.machines import Machine
from fourwalls.papers import Paper
from fourwalls.rooms import play
from fourwalls.strands import Strand, strand_of
from fourwalls.views import members, rows_seen, texts_of
from fourwalls.weigh import Peak, Rise, greatest
from fourwalls.weights import Weights
from samples import (
    CROSS, RICH, RULES, any_values, cuts_of, draw_history, draw_question, draw_room, named, raised, told,
)

UPRIGHT = Book("ab", "AB", (".", ".", ".", ".", "A", "|ab"))
HEAVY = Weights("ab", each=1, b=2)
GREAT = 999999999999999999


def draw_weights(draw, faces):
    """Draw weights with small, great or mostly negative numbers."""
    low, high = draw.choice([(-3, 3), (-GREAT, GREAT), (-4, 0), (-9, 1), (0, 2)])
    return Weights(faces, each=draw.randint(low, high), **{face: draw.randint(low, high) for face in faces})


def greatest_weights(book, start, view, weights):
    """Return the greatest weights of all members, straight from [11], or None if they grow without end."""
    best = {room: weights(room) for room in members(book, start, view)}
    for _ in range(len(best) + 1):
        before = dict(best)
        for room in best:
            for _, how, first, second in cuts_of(book, view, room):
                sums = [before[part] for part in named(how, first, second)]
                best[room] = max([best[room], sum(sums)] if how == "both" else [best[room], *sums])
        if best == before:
            return best
    # A row with cuts one in another more often than there are rooms repeats one, and gains by it.
    return None


def texts_by_histories(draw, book, start, view):
    """Return the texts of the rows behind a drawn history."""
    history = draw_history(draw, book, start, 7)
    rooms = dict(play(book, start, history))
    return [[rooms[at] for at in row] for row in rows_seen(book, start, history, view)]


class Greatest(unittest.TestCase):
    def test_examples(self):
        book = Book("ab", "A", (".", ".", ".", ".", "A", "|ab"))
        self.assertEqual(greatest(book, "aaaa", "E", Weights("ab", each=1, b=2)).told(), "peak 3")
        self.assertEqual(greatest(book, "aaaa", "N", Weights("ab", each=1)).WORD, "rise")

    def test_peaks_and_rises(self):
        draw = random.Random(81)
        count = {"peak": 0, "rise": 0}
        for _ in range(400):
            book, start, view = draw_question(draw, 6)
            weights = draw_weights(draw, book.faces)
            paper = greatest(book, start, view, weights)
            count[paper.WORD] += 1
            self.assertIs(paper.holds(), True)
            self.assertEqual((paper.book, paper.start, paper.view, paper.weights), (book, start, view, weights))
            best = greatest_weights(book, start, view, weights)
            if best is None:
                self.assertIsInstance(paper, Rise)
                self.assertGreater(paper.gain(), 0)
                self.assertEqual(paper.told(), f"rise by {paper.gain()}")
            else:
                self.assertIsInstance(paper, Peak)
                self.assertEqual(paper.heights(), sorted(best.items()))
                self.assertEqual((paper.number(), paper.told()), (best[start], f"peak {best[start]}"))
        self.assertGreater(min(count.values()), 40)

    def test_no_row_weighs_more(self):
        draw = random.Random(82)
        for _ in range(150):
            book, start, view = draw_question(draw, 4)
            weights = draw_weights(draw, book.faces)
            paper = greatest(book, start, view, weights)
            if paper.WORD == "peak":
                for row in texts_by_histories(draw, book, start, view):
                    self.assertLessEqual(sum(weights(room) for room in row), paper.number())
                for cuts in range(3):
                    for text in texts_of(book, start, view, cuts):
                        rooms = [text[at:at + 4] for at in range(0, len(text), 4)]
                        self.assertLessEqual(sum(weights(room) for room in rooms), paper.number())

    def test_heights_are_those_of_the_rooms_as_starts(self):
        draw = random.Random(83)
        for _ in range(100):
            book, start, view = draw_question(draw, 3)
            weights = draw_weights(draw, book.faces)
            paper = greatest(book, start, view, weights)
            if paper.WORD == "peak":
                for room, height in paper.heights():
                    self.assertEqual(greatest(book, room, view, weights).number(), height)
            else:
                self.assertIsNone(getattr(paper, "number", None))

    def test_rise_makes_rows_as_heavy_as_you_like(self):
        draw = random.Random(84)
        for _ in range(60):
            book, start, view = draw_question(draw, 3)
            weights = draw_weights(draw, book.faces)
            paper = greatest(book, start, view, weights)
            if paper.WORD == "rise":
                sums = [unrolled(paper, times).weight(weights) for times in range(3)]
                self.assertEqual([sums[1] - sums[0], sums[2] - sums[1]], [paper.gain(), paper.gain()])

    def test_equal_calls_answer_equally(self):
        draw = random.Random(85)
        for _ in range(60):
            book, start, view = draw_question(draw, 4)
            weights = draw_weights(draw, book.faces)
            one = greatest(book, start, view, weights)
            other = greatest(start=start, weights=weights.copy(), view=view, book=Book.read(book.text()))
            self.assertEqual(one.told(), other.told())
            if one.WORD == "peak":
                self.assertEqual(one.heights(), other.heights())
                self.assertTrue(one.strand == other.strand)
            else:
                self.assertEqual((one.lines(), one.way(), one.ring()), (other.lines(), other.way(), other.ring()))

    def test_rows_of_several_cuts(self):
        # By the faces of its east and west side a room is cut into two, then four, then five, and no further.
        lines = [(".", "a", ".", "a", "A", "|bb"), (".", "b", ".", "a", "A", "|cc"), (".", "a", ".", "b", "A", "|dd"),
                 (".", "d", ".", "b", "A", "|ee")]
        book = Book("abcde", "A", *lines)
        for view, each, most in (("N", 1, 5), ("A", 7, 35), ("S", -1, -1), ("E", 3, 3), ("W", 3, 3), ("D", 3, 3)):
            paper = greatest(book, "aaaa", view, Weights("abcde", each=each))
            self.assertEqual((paper.told(), paper.holds()), (f"peak {most}", True))

    def test_ring_of_three_turns(self):
        # By its east face a room is cut thrice one part in another until it is back; the other parts stay whole.
        lines = [(".", face, ".", "a", "A", f"|{other}d") for face, other in zip("abc", "bca")]
        book = Book("abcd", "A", *lines)
        for view in "NSA":
            paper = greatest(book, "aaaa", view, Weights("abcd", each=1))
            self.assertEqual((paper.told(), paper.holds(), len(paper.ring())), ("rise by 3", True, 3))
            self.assertEqual(greatest(book, "aaad", view, Weights("abcd", each=1)).told(), "peak 1")
        self.assertEqual(greatest(book, "aaaa", "W", Weights("abcd", each=1, c=1)).told(), "peak 2")

    def test_errors_in_their_order(self):
        for value in any_values() + [Weights("abc"), Weights("ac"), Weights("a")]:
            if value != "aaaa":
                self.assertEqual(told(raised(greatest, CROSS, value, None, None)), ("InvalidRoom", {"given": value}))
            if value != "A":
                error = raised(greatest, CROSS, "aaaa", value, None)
                self.assertEqual(told(error), ("InvalidView", {"given": value}))
            self.assertEqual(told(raised(greatest, CROSS, "aaaa", "A", value)), ("OtherFaces", {}))
        self.assertEqual(told(raised(greatest, CROSS, "aaac", "A", HEAVY)), ("InvalidRoom", {"given": "aaac"}))
        self.assertEqual(told(raised(greatest, CROSS, "aaaa", "NE", HEAVY)), ("InvalidView", {"given": "NE"}))


def unrolled(rise, times):
    """Return a strand whose row goes along the way of a Rise, then so many times round its ring."""
    lines = rise.lines()
    turns = rise.way() + rise.ring() * times
    item = None
    for room, cutter, index, beside in turns[::-1]:
        items = (item, beside) if index == 0 else (beside, item)
        lines.append((room, cutter, *items))
        item = len(lines) - 1
    return Strand(rise.book, rise.start, rise.view, lines, item)


class Peaks(unittest.TestCase):
    def each_peak(self, seed, many=40):
        draw = random.Random(seed)
        found = 0
        while found < many:
            book, start, view = draw_question(draw, 3)
            weights = draw_weights(draw, book.faces)
            paper = greatest(book, start, view, weights)
            if paper.WORD == "peak":
                found += 1
                yield draw, paper, (book, start, view, weights)

    def is_right(self, book, start, view, weights, heights):
        """Tell straight from [11] whether heights without wrong forms are right."""
        of = dict(heights)
        for room, height in heights:
            if height < weights(room):
                return False
            for _, how, first, second in cuts_of(book, view, room):
                parts = named(how, first, second)
                if any(part not in of for part in parts):
                    return False
                sums = [of[part] for part in parts]
                if height < (sum(sums) if how == "both" else max(sums)):
                    return False
        return start in of

    def test_any_order_and_kind_of_list(self):
        for draw, paper, given in self.each_peak(86):
            heights = paper.heights()
            draw.shuffle(heights)
            for value in (heights, tuple(heights)):
                bent = Peak(*given, value, paper.strand)
                self.assertEqual((bent.holds(), bent.number()), (True, paper.number()))
                self.assertEqual(bent.heights(), heights)

    def test_raised_and_lowered_at_one_place(self):
        for _, paper, given in self.each_peak(87, 80):
            book, start, view, weights = given
            heights = paper.heights()
            for at, (room, height) in enumerate(heights):
                for change in (1, -1, 2, GREAT ** 3, -GREAT ** 3):
                    bent = heights[:at] + [(room, height + change)] + heights[at + 1:]
                    right = self.is_right(book, start, view, weights, bent) and room != start
                    self.assertIs(Peak(*given, bent, paper.strand).holds(), right, (room, change))

    def test_forms(self):
        for draw, paper, given in self.each_peak(88, 25):
            heights = paper.heights()
            start = given[1]
            at = draw.randrange(len(heights))
            room, height = heights[at]
            entries = [(room, value) for value in any_values() + [[height], (height,), str(height)]
                       if not isinstance(value, int) or isinstance(value, bool)]
            entries += [[room, height], (room,), (room, height, height), (height, room), ([room], height), (room + "a", height)]
            for entry in entries:
                for bent in (heights[:at] + [entry] + heights[at + 1:], heights + [entry], [entry] + heights):
                    paper_ = Peak(*given, bent, paper.strand)
                    self.assertEqual((paper_.holds(), paper_.number(), paper_.told()), (False, None, "peak"), entry)
            for bent in (heights + [heights[at]], heights[:at] + heights[at + 1:], [], [(room, height)] * 2):
                self.assertIs(Peak(*given, bent, paper.strand).holds(), False)
            without = [entry for entry in heights if entry[0] != start]
            self.assertIs(Peak(*given, without, paper.strand).holds(), False)

    def test_rooms_that_do_not_come(self):
        for draw, paper, given in self.each_peak(89):
            book, start, view, weights = given
            other = greatest(book, draw_room(draw, book.faces), view, weights)
            if other.WORD == "peak":
                more = sorted({**dict(other.heights()), **dict(paper.heights())}.items())
                self.assertIs(Peak(*given, more, paper.strand).holds(), True)
                right = start in dict(other.heights())
                self.assertIs(Peak(*given, other.heights(), paper.strand).holds(), right)

    def test_strands(self):
        count = {True: 0, False: 0}
        for draw, paper, given in self.each_peak(90, 80):
            book, start, view, weights = given
            history = draw_history(draw, book, start, 4)
            strand = strand_of(book, start, history, view)
            right = strand.weight(weights) == paper.number()
            count[right] += 1
            self.assertIs(Peak(*given, paper.heights(), strand).holds(), right)
        self.assertGreater(min(count.values()), 10)

    def test_other_strands(self):
        heights = [("aaaa", 1), ("aaab", 3)]
        lines = [("aaaa", "A", "-", None)]
        given = (UPRIGHT, "aaaa", "E", HEAVY, heights)
        self.assertEqual(Peak(*given, Strand(UPRIGHT, "aaaa", "E", lines, 0)).holds(), False)
        heights[0] = ("aaaa", 3)
        paper = Peak(*given, Strand(UPRIGHT, "aaaa", "E", lines, 0))
        self.assertEqual((paper.holds(), paper.number(), paper.told()), (True, 3, "peak 3"))
        wrong = [Strand(UPRIGHT, "aaaa", "E", lines, None), Strand(UPRIGHT, "aaaa", "E", lines, 1),
                 Strand(UPRIGHT, "aaaa", "E", lines, False), Strand(UPRIGHT, "aaab", "E", [("aaab", "A", "-", None)], 0),
                 Strand(UPRIGHT, "aaab", "E", [], None), Strand(CROSS, "aaaa", "E", lines, 0),
                 Strand(UPRIGHT, "aaaa", "D", [("aaaa", "A", "-", None)], 0), Strand(UPRIGHT, "aaaa", "E", None, 0)]
        for value in any_values() + wrong + [Paper(UPRIGHT, "aaaa"), [paper.strand]]:
            bent = Peak(*given, value)
            self.assertEqual((bent.holds(), bent.number(), bent.told()), (False, None, "peak"))
        for book, start, view in ((CROSS, "aaaa", "E"), (UPRIGHT, "aaab", "E"), (UPRIGHT, "aaaa", "N"),
                                  (UPRIGHT, "aaaa", "D"), (UPRIGHT, ["aaaa"], "E"), (UPRIGHT, "aaaa", ["E"])):
            self.assertIs(Peak(book, start, view, HEAVY, heights, paper.strand).holds(), False)

    def test_weights(self):
        paper = greatest(UPRIGHT, "aaaa", "E", HEAVY)
        unlike = [Weights("abc", each=1, b=2), Weights("ac", each=1, c=2), Weights("ab", each=2, b=2), Weights("ab", each=1)]
        for value in any_values() + unlike + [[HEAVY], -HEAVY]:
            bent = Peak(UPRIGHT, "aaaa", "E", value, paper.heights(), paper.strand)
            self.assertEqual((bent.holds(), bent.number(), bent.told()), (False, None, "peak"))
            self.assertEqual(repr(bent.weights), repr(value))

    def test_weights_that_change_later(self):
        weights = HEAVY.copy()
        paper = greatest(UPRIGHT, "aaaa", "E", weights)
        other = Peak(UPRIGHT, "aaaa", "E", weights, paper.heights(), paper.strand)
        weights["b"] = 7
        weights += weights
        for one in (paper, other):
            self.assertEqual((one.weights, one.number(), one.told(), one.holds()), (HEAVY, 3, "peak 3", True))

    def test_very_long_row(self):
        # The heights of rooms that are cut without end are met just where each room weighs nothing.
        lines = [("aaaa", "A", None, None)] + [("aaaa", "A", at, at) for at in range(27)]
        book = Book("a", "A", (".", ".", ".", ".", "A", "|aa"))
        weights = Weights("a", each=-4, a=1)
        for top, many in ((None, 1), (0, 2), (27, 2 ** 28)):
            strand = Strand(book, "aaaa", "N", lines, top)
            self.assertEqual(strand.many(), many)
            paper = Peak(book, "aaaa", "N", weights, [("aaaa", 0)], strand)
            self.assertEqual((paper.holds(), paper.number(), paper.told()), (True, 0, "peak 0"))
            paper = Peak(book, "aaaa", "N", Weights("a", each=-5, a=1), [("aaaa", -1)], strand)
            self.assertEqual((paper.holds(), paper.told()), (many == 1, "peak -1" if many == 1 else "peak"))

    def test_returned_lists_are_new(self):
        paper = greatest(UPRIGHT, "aaaa", "E", HEAVY)
        paper.heights().clear()
        self.assertEqual(paper.heights(), [("aaaa", 3), ("aaab", 3)])


class Rises(unittest.TestCase):
    """Right ones of every view, and such as are bent at one place."""

    # By each view one turn of CROSS, its rule, and the part to which it leads.
    TURNS = [(view, cutter, index) for view in "NESWAD" for cutter in "AB" for index in (0, 1)]

    def test_turns_of_each_rule(self):
        book = Book("a", "AB", (".", ".", ".", ".", "A", "|aa"), (".", ".", ".", ".", "B", "-aa"))
        weights = Weights("a", each=1)
        for view, cutter, index in self.TURNS:
            how = RULES["|" if cutter == "A" else "-"][view]
            both = ("aaaa", "A" if RULES["|"][view] == "both" else "B", 0, None)
            turn = ("aaaa", cutter, index, None if how == "both" else "-")
            right = how in ("both", "either") or index == ("first", "second").index(how)
            paper = Rise(book, "aaaa", view, weights, [], [turn], [turn, both])
            gain = (2 if how == "both" else 1) if right else None
            self.assertEqual((paper.holds(), paper.gain()), (right, gain), (view, cutter, index))
            self.assertEqual(paper.told(), f"rise by {gain}" if right else "rise")
            other = turn[:3] + ("-" if how == "both" else None,)
            for way, ring in (([other], [both]), ([], [other, both])):
                self.assertIs(Rise(book, "aaaa", view, weights, [], way, ring).holds(), False)
            # A ring without the rule both gains nothing.
            paper = Rise(book, "aaaa", view, weights, [], [], [turn])
            self.assertIs(paper.holds(), right and how == "both")

    def test_way_and_ring_lead_on(self):
        # From aaaa lead 0 to aaaa and 1 to aaab; from aaab both lead to aaab.
        stay, leave, round_ = ("aaaa", "A", 0, None), ("aaaa", "A", 1, None), ("aaab", "A", 1, None)
        right = [([], [stay]), ([stay], [stay]), ([stay, stay, leave], [round_]), ([leave], [round_, round_]),
                 ([], [stay, stay]), ([leave, round_], [round_])]
        wrong = [([], []), ([stay], []), ([], [leave]), ([], [stay, leave]), ([], [leave, round_]), ([leave], [stay]),
                 ([stay], [round_]), ([], [round_]), ([round_], [round_]), ([leave], [round_, stay]),
                 ([leave, leave], [round_]), ([leave, stay], [round_]), ([stay], [leave]), ([leave], [leave]),
                 ([leave, round_], [stay]), ([stay, leave], [round_, leave])]
        for way, ring in right:
            paper = Rise(UPRIGHT, "aaaa", "N", HEAVY, [], way, ring)
            gain = sum(3 if turn[:3] == ("aaaa", "A", 0) or turn == round_ else 1 for turn in ring)
            self.assertEqual((paper.holds(), paper.gain(), paper.told()), (True, gain, f"rise by {gain}"))
            for kind in (list, tuple):
                self.assertIs(Rise(UPRIGHT, "aaaa", "N", HEAVY, (), kind(way), kind(ring)).holds(), True)
            self.assertIs(Rise(UPRIGHT, "aaab", "N", HEAVY, [], way, ring).holds(), False)
        for way, ring in wrong:
            paper = Rise(UPRIGHT, "aaaa", "N", HEAVY, [], way, ring)
            self.assertEqual((paper.holds(), paper.gain(), paper.told()), (False, None, "rise"), (way, ring))

    def test_items(self):
        lines = [("aaab", "A", None, None), ("aaaa", "A", None, 0), ("aaab", "A", 0, 0)]
        # Beside the first part stands aaab, beside the second one aaaa; HEAVY weighs them 3 and 1.
        gains = {(0, None): 3, (0, 0): 6, (0, 2): 12, (1, None): 1, (1, 1): 7}
        for index in (0, 1):
            for item in any_values() + [2, 3, -1, "0", "--"]:
                turn = ("aaaa", "A", index, item)
                ring, way = ([turn], []) if index == 0 else ([("aaab", "A", 1, None)], [turn])
                paper = Rise(UPRIGHT, "aaaa", "N", HEAVY, lines, way, ring)
                plain = item is None or isinstance(item, int) and not isinstance(item, bool)
                right = plain and (index, item) in gains
                gain = gains[(0, item)] if right and index == 0 else 3 if right else None
                self.assertEqual((paper.holds(), paper.gain()), (right, gain), (index, item))

    def test_places_of_a_turn(self):
        turn = ("aaaa", "A", 0, None)
        for at in range(4):
            for value in any_values() + ["aaab", "bbbb", "aaac", "aaa", "B", "C", "AB", 1, 2, -1, "0", "-", 5]:
                if repr(value) == repr(turn[at]):
                    continue
                bent = turn[:at] + (value,) + turn[at + 1:]
                for way, ring in (([], [bent]), ([bent], [turn]), ([], [turn, bent])):
                    # The part at the index 1 is a room that does not lead back.
                    paper = Rise(UPRIGHT, "aaaa", "N", HEAVY, [], way, ring)
                    self.assertIs(paper.holds(), False, (way, ring))
        for bent in any_values() + [list(turn), turn[:3], turn + (None,), (), (turn,)]:
            self.assertIs(Rise(UPRIGHT, "aaaa", "N", HEAVY, [], [bent], [turn]).holds(), False)
            self.assertIs(Rise(UPRIGHT, "aaaa", "N", HEAVY, [], [], [turn, bent]).holds(), False)

    def test_lines_are_right(self):
        turn = ("aaaa", "A", 0, None)
        for lines in ([("aaab", "A", None, None)], [("aaaa", "A", None, None), ("aaaa", "A", 0, None)]):
            self.assertIs(Rise(UPRIGHT, "aaaa", "N", HEAVY, lines, [], [turn]).holds(), True)
        for lines in ([("aaab", "A", 0, None)], [("aaab", "A", None, "-")], [("aaab", "B", None, None)], [("aaab", "A", None)],
                      [["aaab", "A", None, None]], [None], None, "", {}, [("aaaa", "A", None, 1), ("aaab", "A", None, None)]):
            self.assertIs(Rise(UPRIGHT, "aaaa", "N", HEAVY, lines, [], [turn]).holds(), False, lines)

    def test_gain_of_nothing_and_below(self):
        turn = ("aaaa", "A", 0, None)
        for each, gain in ((1, 1), (0, None), (-1, None), (GREAT, GREAT)):
            paper = Rise(UPRIGHT, "aaaa", "N", Weights("ab", each=each), [], [], [turn])
            self.assertEqual((paper.holds(), paper.gain()), (gain is not None, gain))
        # What the way gains does not count.
        leave = ("aaaa", "A", 1, None)
        back = ("aaab", "A", 1, None)
        for weights, gain in ((Weights("ab", a=5, b=-16), None), (Weights("ab", a=5, b=-15), None),
                              (Weights("ab", a=5, b=-14), 1), (Weights("ab", a=-5, b=16), 1)):
            paper = Rise(UPRIGHT, "aaaa", "N", weights, [], [turn, leave], [back])
            self.assertEqual((paper.holds(), paper.gain()), (gain is not None, gain))

    def test_weights(self):
        turn = ("aaaa", "A", 0, None)
        for value in any_values() + [Weights("abc", each=5), Weights("ac", each=5), [HEAVY], -HEAVY, Weights("ab")]:
            paper = Rise(UPRIGHT, "aaaa", "N", value, [], [], [turn])
            self.assertEqual((paper.holds(), paper.gain(), paper.told()), (False, None, "rise"))
        weights = HEAVY.copy()
        papers = [Rise(UPRIGHT, "aaaa", "N", weights, [], [], [turn]), greatest(UPRIGHT, "aaaa", "N", weights)]
        gains = [paper.gain() for paper in papers]
        weights["b"] = -50
        weights += weights
        for paper, gain in zip(papers, gains):
            self.assertEqual((paper.weights, paper.gain(), paper.holds()), (HEAVY, gain, True))

    def test_other_views(self):
        draw = random.Random(91)
        found = 0
        while found < 60:
            book, start, view = draw_question(draw, 3)
            weights = draw_weights(draw, book.faces)
            paper = greatest(book, start, view, weights)
            if paper.WORD == "peak":
                continue
            found += 1
            for other in "NESWAD":
                bent = Rise(book, start, other, weights, paper.lines(), paper.way(), paper.ring())
                self.assertIs(bent.holds(), self.same_rules(paper, other), (view, other))
            for at in range(len(paper.ring())):
                # The ring may begin with any of its turns, if the way leads to it.
                turned = paper.ring()[at:] + paper.ring()[:at]
                bent = Rise(book, start, view, weights, paper.lines(), paper.way() + paper.ring()[:at], turned)
                self.assertEqual((bent.holds(), bent.gain()), (True, paper.gain()))
                short = paper.ring()[:at] + paper.ring()[at + 1:]
                self.assertIs(Rise(book, start, view, weights, paper.lines(), paper.way(), short).holds(),
                              self.is_ring(paper, short))
            bent = Rise(book, start, view, -weights, paper.lines(), paper.way(), paper.ring())
            self.assertIs(bent.holds(), False)

    def same_rules(self, paper, view):
        """Tell whether all lines and turns of a paper have the same rule by another view."""
        for room, cutter, *_ in paper.lines() + paper.way() + paper.ring():
            sign = paper.book.cut(room, cutter)[0]
            one, other = RULES[sign][paper.view], RULES[sign][view]
            if one != other and not self.either_way(paper, room, cutter, one, other):
                return False
        return True

    def either_way(self, paper, room, cutter, one, other):
        """Tell whether all lines and turns with this room and cutter are right by both of two rules without `both`."""
        if "both" in (one, other):
            return False
        parts = set()
        for line in paper.lines():
            if line[:2] == (room, cutter):
                parts.add("first" if line[3] == "-" else "second")
        for turn in paper.way() + paper.ring():
            if turn[:2] == (room, cutter):
                parts.add(("first", "second")[turn[2]])
        return all(part == other or other == "either" for part in parts)

    def is_ring(self, paper, ring):
        """Tell whether a part of a ring is a ring too, and gains."""
        if not ring or not all(isinstance(turn[3], (int, type(None))) or turn[3] == "-" for turn in ring):
            return False
        leads = [paper.book.parts(turn[0], turn[1])[turn[2]] for turn in ring]
        way = [paper.book.parts(turn[0], turn[1])[turn[2]] for turn in paper.way()]
        if (way[-1] if way else paper.start) != ring[0][0] or leads[-1] != ring[0][0]:
            return False
        if any(lead != turn[0] for lead, turn in zip(leads, ring[1:])):
            return False
        return self.gain_of(paper, ring) > 0

    def gain_of(self, paper, ring):
        """Return the gain of a ring, with the strand of each other part."""
        gain = 0
        for room, cutter, index, item in ring:
            if item != "-":
                other = paper.book.parts(room, cutter)[1 - index]
                gain += Strand(paper.book, other, paper.view, paper.lines(), item).weight(paper.weights)
        return gain

    def test_gain_against_strands(self):
        draw = random.Random(92)
        for _ in range(150):
            book, start, view = draw_question(draw, 4)
            paper = greatest(book, start, view, draw_weights(draw, book.faces))
            if paper.WORD == "rise":
                self.assertEqual(paper.gain(), self.gain_of(paper, paper.ring()))
                self.assertTrue(self.is_ring(paper, paper.ring()))

    def test_very_heavy_rows_beside(self):
        book = Book("a", "A", (".", ".", ".", ".", "A", "|aa"))
        lines = [("aaaa", "A", None, None)] + [("aaaa", "A", at, at) for at in range(27)]
        weights = Weights("a", each=GREAT)
        paper = Rise(book, "aaaa", "S", weights, lines, [], [("aaaa", "A", 0, 27), ("aaaa", "A", 1, 3)])
        self.assertEqual(paper.told(), f"rise by {GREAT * (2 ** 28 + 2 ** 4)}")

    def test_returned_lists_are_new(self):
        paper = greatest(UPRIGHT, "aaaa", "N", HEAVY)
        before = (paper.lines(), paper.way(), paper.ring())
        for method in (paper.lines, paper.way, paper.ring):
            method().append(5)
            method().clear()
        self.assertEqual((paper.lines(), paper.way(), paper.ring()), before)


class Rich(unittest.TestCase):
    def test_all_views(self):
        for view in "NESWAD":
            for start in ("aaaa", "bacb", "cccc"):
                for weights in (Weights("abc", each=-2, c=1), Weights("abc", a=1, b=-2, c=1), Weights("abc", each=-9, b=5)):
                    paper = greatest(RICH, start, view, weights)
                    best = greatest_weights(RICH, start, view, weights)
                    self.assertEqual(paper.WORD, "rise" if best is None else "peak")
                    self.assertIs(paper.holds(), True)

    def test_machine_is_no_weights(self):
        self.assertEqual(told(raised(greatest, CROSS, "aaaa", "N", Machine("ab", [(0, 0)]))), ("OtherFaces", {}))


if __name__ == "__main__":
    unittest.main()
