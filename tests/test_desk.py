"""Desk: answers to lines about a live floor."""

import random
import unittest

from fourwalls.books import Book
from fourwalls.desk import Desk
from fourwalls.errors import HouseError, NothingLeft
from fourwalls.kept import verdict
from fourwalls.live import Floor
from fourwalls.machines import Machine
from fourwalls.rooms import reached
from fourwalls.touch import touch_of
from floors import Model, draw_turn, outcome, seen_of
from samples import CHARACTERS, CROSS, draw_question, draw_room

ANY = (".", ".", ".", ".")
THREE = Book("ab", "ABC", *CROSS.lines())
COMMANDS = ("cut", "unite", "undo", "redo", "rooms", "room", "side", "come", "meet", "touch", "wish")


def new_desk():
    """Return a desk about a floor with four rooms: 0, 100, 101 and 11."""
    floor = Floor(THREE, "aaaa")
    floor.cut_all(("", "A", 1, 2), ("1", "B", 1, 2), ("10", "A", 1, 3))
    return Desk(floor)


def number(word):
    """Return what a word is passed on as, in the place of a number."""
    return int(word) if 1 <= len(word) <= 3 and all(digit in "0123456789" for digit in word) else word


def answer_by_calls(floor, line):
    """Return the answer to a line of a known form, by calls of the floor and of functions."""
    words = line.split(" ")
    addresses = ["" if word == "." else word for word in words]
    book, start = floor.book, floor.start
    calls = {
        "cut": lambda: floor.cut(addresses[1], words[2], *[number(word) for word in words[3:]]) or "none",
        "unite": lambda: floor.unite(addresses[1]),
        "undo": lambda: floor.undo() or "done",
        "redo": lambda: floor.redo() or "done",
        "rooms": lambda: str(len(floor)),
        "room": lambda: floor.room(addresses[1]),
        "side": lambda: " ".join([floor.room(one) for one in floor.side(words[1])]),
        "come": lambda: " ".join(reached(book, floor.room(addresses[1]))),
        "meet": lambda: meet(floor, addresses[1], addresses[2]),
        "touch": lambda: "no" if touch_of(book, start, *words[1:]) is None else "yes",
        "wish": lambda: verdict(book, start, view=words[1], machine=wished(book.faces, *words[2:])).told(),
    }
    try:
        return calls[words[0]]()
    except (HouseError, NothingLeft) as error:
        return f"error {error.__class__.__name__}"


def meet(floor, one, other):
    floor.room(one), floor.room(other)
    found = [sign for sign, *pair in floor.meeting() if sorted(pair) == sorted([one, other])]
    return found[0] if found else "no"


def wished(faces, kind, *words):
    if kind == "counted":
        return Machine.counted(faces, words[0], number(words[1]), rest=number(words[2]))
    return getattr(Machine, kind)(faces, *words)


def draw_line(draw, floor):
    """Draw a line of a known form, of which some words may be wrong."""
    def address():
        wrong = ["2", "0000000", "x", ".."]
        return draw.choice([one or "." for one, _ in floor.rooms()] * 3 + [step[0] or "." for step in floor.cuts()] + wrong)

    def text():
        return "".join(draw.choice(floor.book.faces) for _ in range(draw.randint(1, 4)))

    def digits():
        return draw.choice(["0", "1", "2", "3", "02", "003", "8", "9", "0004", "1000", "x", "-1", "."])

    view = draw.choice("NESWNESWAXn")
    room = draw.choice([draw_room(draw, floor.book.faces), floor.rooms()[0][1], "aaa"])
    cutter = draw.choice(list(floor.book.cutters) * 4 + ["a", "AA"])
    words = draw.choice([f"without {text()}", f"begins {text()}", "without zz", f"begins {'a' * 17}",
                         f"counted {draw.choice(floor.book.faces)} {digits()} {digits()}", f"counted z {digits()} {digits()}"])
    return draw.choice([
        f"cut {address()} {cutter}", f"cut {address()} {cutter}", f"cut {address()} {cutter}",
        f"cut {address()} {cutter} {digits()} {digits()}", f"unite {address()}", "undo", "redo", "rooms", f"room {address()}",
        f"side {view}", f"come {address()}", f"meet {address()} {address()}", f"meet {address()} {address()}",
        f"touch {draw.choice('|-|-x')} {room} {draw_room(draw, floor.book.faces)}", f"wish {view} {words}",
    ])


class Desks(unittest.TestCase):
    def test_example(self):
        desk = Desk(Floor(CROSS, "aaaa"))
        lines = ["cut . A", "side N", "meet 0 1", "unite 0", "wish N without ba", "walk"]
        self.assertEqual([desk(line) for line in lines],
                         ["|ab", "aaaa aaab", "|", "error InvalidAddress", "broken by 1 cuts", "unknown"])

    def test_new_desk(self):
        floor = Floor(CROSS, "aaaa")
        desk = Desk(floor=floor)
        self.assertIs(desk.floor, floor)
        self.assertEqual((len(desk), bool(desk), repr(desk), desk.log()), (0, True, "Desk(0 lines)", []))
        for name in ("floor", "say", "__call__", "log", "__len__", "__repr__"):
            self.assertIn(name, vars(Desk))

    def test_log(self):
        desk = new_desk()
        lines = ["rooms", "", "walk", "cut 2 A", "rooms", "undo", "redo", "redo"]
        for at, line in enumerate(lines):
            answer = desk.say(line) if at % 2 else desk(line)
            self.assertEqual(desk.log()[-1], (line, answer))
            self.assertEqual((len(desk), repr(desk), bool(desk)), (at + 1, f"Desk({at + 1} lines)", True))
        self.assertEqual(desk.log(), list(zip(lines, ["4", "unknown", "unknown", "error InvalidAddress", "4", "done", "done",
                                                      "error NothingLeft"])))
        log = desk.log()
        log.clear()
        self.assertEqual((len(desk.log()), len(desk)), (8, 8))
        self.assertIsInstance(desk.log()[0], tuple)

    def test_say_and_call_are_alike(self):
        draw = random.Random(901)
        for _ in range(25):
            book, start, _ = draw_question(draw, 3)
            one, other = Desk(Floor(book, start)), Desk(Floor(book, start))
            for _ in range(20):
                line = draw_line(draw, one.floor)
                self.assertEqual(one.say(line=line), other(line=line))
            self.assertEqual((one.log(), one.floor), (other.log(), other.floor))

    def test_drawn_lines(self):
        draw = random.Random(902)
        seen = {}
        for at in range(130):
            book, start, _ = draw_question(draw, 3)
            if at % 3:
                book, start = THREE, draw_room(draw, "ab")
            floor = Floor(book, start, limit=draw.choice((60, 3, 5)))
            desk, other = Desk(floor), floor.twin()
            for _ in range(40):
                line = draw_line(draw, floor)
                answer = desk(line)
                self.assertEqual(answer, answer_by_calls(other, line), line)
                self.assertEqual(seen_of(floor), seen_of(other))
                key = line.split(" ")[0] + (" " + answer if answer.startswith("error") else "")
                seen[key] = seen.get(key, 0) + 1
        for command in COMMANDS:
            self.assertGreater(seen[command], 8)
        for key in ("cut error InvalidAddress", "cut error InvalidCutter", "cut error InvalidPlace", "cut error Full",
                    "unite error InvalidAddress", "unite error NotUnited", "undo error NothingLeft", "redo error NothingLeft",
                    "room error InvalidAddress", "side error InvalidView", "come error InvalidAddress",
                    "meet error InvalidAddress", "touch error InvalidSign", "touch error InvalidRoom",
                    "wish error InvalidString", "wish error InvalidFace", "wish error InvalidModulus", "wish error InvalidRest",
                    "wish error InvalidView"):
            self.assertGreater(seen.get(key, 0), 1, key)

    def test_floor_changed_beside_the_desk(self):
        floor = Floor(THREE, "aaaa")
        desk = Desk(floor)
        self.assertEqual((desk("rooms"), floor.cut("", "A"), desk("rooms"), desk("room 1")), ("1", "|ab", "2", "aaab"))
        self.assertEqual((desk("cut 0 B"), len(floor), floor.history()), ("-ba", 3, (2, 0)))
        floor.undo()
        self.assertEqual((desk("rooms"), desk("redo"), len(floor)), ("2", "done", 3))
        floor.limit = 3
        self.assertEqual((desk("cut 1 A"), desk("cut 1 C"), desk("cut 1 C 1 2")), ("error Full", "none", "none"))
        self.assertIs(desk.floor, floor)
        other = Desk(floor)
        self.assertEqual((other("rooms"), len(other), len(desk)), ("3", 1, 9))


class Lines(unittest.TestCase):
    def check(self, line, answer, desk=None):
        found = (desk or new_desk())(line)
        self.assertEqual(found, answer, line)

    def test_cut(self):
        for line, answer, cut in (
            ("cut 0 A", "|ab", ("0", "A", 1, 2)), ("cut 0 B", "-ba", ("0", "B", 1, 2)), ("cut 0 A 1 3", "|ab", ("0", "A", 1, 3)),
            ("cut 0 A 02 004", "|ab", ("0", "A", 1, 2)), ("cut 0 A 001 999", "|ab", ("0", "A", 1, 999)), ("cut 0 C", "none", None),
            ("cut 0 C 1 3", "none", None), ("cut . A", "error InvalidAddress", None), ("cut 1 A", "error InvalidAddress", None),
            ("cut x A", "error InvalidAddress", None), ("cut 0 a", "error InvalidCutter", None), ("cut 0 AB", "error InvalidCutter", None),
            ("cut 0 A 0 2", "error InvalidPlace", None), ("cut 0 A 2 2", "error InvalidPlace", None),
            ("cut 0 A 1 1000", "error InvalidPlace", None), ("cut 0 A 0001 2", "error InvalidPlace", None),
            ("cut 0 A x 2", "error InvalidPlace", None), ("cut 0 A 1 -2", "error InvalidPlace", None),
            ("cut 0 A 1 2.", "error InvalidPlace", None), ("cut 9 Z 0 0", "error InvalidAddress", None),
            ("cut 0 Z 0 0", "error InvalidCutter", None), ("cut 0 A 1", "unknown", None), ("cut 0", "unknown", None),
            ("cut", "unknown", None), ("cut 0 A 1 2 3", "unknown", None), ("cut 0 A  1", "unknown", None),
        ):
            desk = new_desk()
            before = desk.floor.cuts()
            self.check(line, answer, desk)
            self.assertEqual(desk.floor.cuts(), before + ([cut] if cut else []), line)
        desk = Desk(Floor(CROSS, "aaaa"))
        self.check("cut . B 2 6", "-ba", desk)
        self.assertEqual(desk.floor.cuts(), [("", "B", 1, 3)])

    def test_unite_undo_redo(self):
        desk = new_desk()
        for line, answer in (("unite .", "error NotUnited"), ("unite 1", "error NotUnited"), ("unite 0", "error InvalidAddress"),
                             ("unite 10", "A"), ("unite 1", "B"), ("unite .", "A"), ("unite .", "error InvalidAddress"),
                             ("rooms", "1"), ("room .", "aaaa"), ("redo", "error NothingLeft"), ("undo", "done"), ("undo", "done"),
                             ("rooms", "3"), ("redo", "done"), ("rooms", "2"), ("undo", "done"), ("undo", "done"), ("undo", "done"),
                             ("undo", "error NothingLeft"), ("redo", "done"), ("rooms", "4")):
            self.check(line, answer, desk)
        for line in ("unite", "unite 1 0", "undo 1", "redo 1", "undo .", "undone", "Undo", "UNDO"):
            self.check(line, "unknown")

    def test_rooms_room_side_come(self):
        for line, answer in (
            ("rooms", "4"), ("room 0", "aaaa"), ("room 100", "aabb"), ("room 101", "aabb"), ("room 11", "aaab"),
            ("room .", "error InvalidAddress"), ("room 10", "error InvalidAddress"), ("room a", "error InvalidAddress"),
            ("side N", "aaaa aabb aabb"), ("side E", "aabb aaab"), ("side S", "aaaa aaab"), ("side W", "aaaa"),
            ("side A", "error InvalidView"), ("side D", "error InvalidView"), ("side NE", "error InvalidView"),
            ("side n", "error InvalidView"), ("side .", "error InvalidView"), ("come 11", "aaab aabb"), ("come 0", "aaaa aaab aaba aabb"),
            ("come 10", "error InvalidAddress"), ("come .", "error InvalidAddress"),
            ("rooms 1", "unknown"), ("room", "unknown"), ("room 0 1", "unknown"), ("side", "unknown"), ("side N E", "unknown"),
            ("come", "unknown"), ("come 0 0", "unknown"), ("rooms.", "unknown"), ("area 0", "unknown"), ("walk", "unknown"),
        ):
            self.check(line, answer)
        self.check("come .", "aaaa", Desk(Floor(Book("ab", "A"), "aaaa")))
        self.check("side N", "abab", Desk(Floor(Book("ab", "A"), "abab")))

    def test_meet(self):
        for line, answer in (
            ("meet 0 100", "|"), ("meet 100 0", "|"), ("meet 100 101", "|"), ("meet 100 11", "-"), ("meet 11 101", "-"),
            ("meet 0 11", "|"), ("meet 0 101", "no"), ("meet 0 0", "no"), ("meet . 0", "error InvalidAddress"),
            ("meet 0 .", "error InvalidAddress"), ("meet x 9", "error InvalidAddress"), ("meet 0 1", "error InvalidAddress"),
            ("meet 0", "unknown"), ("meet", "unknown"), ("meet 0 11 100", "unknown"),
        ):
            self.check(line, answer)
        self.check("meet . .", "no", Desk(Floor(CROSS, "aaaa")))

    def test_touch(self):
        for line, answer in (
            ("touch | aaaa aaab", "yes"), ("touch | aaab aaab", "yes"), ("touch - aabb aaab", "yes"), ("touch - aaaa aaaa", "no"),
            ("touch x aaaa aaab", "error InvalidSign"), ("touch || aaaa aaab", "error InvalidSign"),
            ("touch x aaa aab", "error InvalidSign"), ("touch | aaa aaab", "error InvalidRoom"), ("touch | aaac aa", "error InvalidRoom"),
            ("touch - aaaa aaac", "error InvalidRoom"), ("touch . aaaa aaab", "error InvalidSign"),
            ("touch | . aaab", "error InvalidRoom"), ("touch |", "unknown"), ("touch | aaaa", "unknown"),
            ("touch | aaaa aaab aaab", "unknown"), ("touch", "unknown"),
        ):
            self.check(line, answer)
        # It is asked for the start of the floor, not for what stands.
        desk = Desk(Floor(Book("ab", "A", ("a", "a", "a", "a", "A", "|ab")), "aaaa"))
        desk("cut . A")
        self.check("touch | aaaa aaab", "yes", desk)

    def test_wish(self):
        for line, answer in (
            ("wish N without ba", "broken by 1 cuts"), ("wish N without bb", "broken by 2 cuts"), ("wish N begins aa", "safe"),
            ("wish W begins b", "broken by 0 cuts"), ("wish N counted a 2 0", "broken by 1 cuts"),
            ("wish N counted b 2 0", "broken by 1 cuts"), ("wish N counted b 002 000", "broken by 1 cuts"),
            ("wish N counted b 2 1", "broken by 0 cuts"), ("wish A begins aaaa", "broken by 1 cuts"), ("wish D begins a", "safe"),
            ("wish N without zz", "error InvalidString"), ("wish N without .", "error InvalidString"),
            ("wish N begins aaaaaaaaaaaaaaaaa", "error InvalidString"), ("wish X without zz", "error InvalidString"),
            ("wish X without ab", "error InvalidView"), ("wish n begins ab", "error InvalidView"),
            ("wish X counted z 9 9", "error InvalidFace"), ("wish X counted b 9 9", "error InvalidModulus"),
            ("wish X counted b 1 9", "error InvalidModulus"), ("wish X counted b 0002 0", "error InvalidModulus"),
            ("wish X counted b 8 8", "error InvalidRest"), ("wish X counted b 8 x", "error InvalidRest"),
            ("wish X counted b 8 0007", "error InvalidRest"), ("wish X counted b 8 7", "error InvalidView"),
            ("wish X counted ab 8 7", "error InvalidFace"), ("wish NE begins a", "error InvalidView"),
            ("wish N", "unknown"), ("wish", "unknown"), ("wish N without", "unknown"), ("wish N without a b", "unknown"), ("wish N without a b c", "unknown"),
            ("wish N begins", "unknown"), ("wish N begins a b c", "unknown"), ("wish N counted b 2", "unknown"),
            ("wish N counted b 2 0 0", "unknown"), ("wish N counted b", "unknown"), ("wish X within ab", "unknown"),
            ("wish N within a b c", "unknown"), ("wish without ab", "unknown"), ("wish N Without ab", "unknown"),
        ):
            self.check(line, answer)
        desk = Desk(Floor(CROSS, "bbbb"))
        desk("cut . A")
        self.check("wish N without bbbb", "broken by 0 cuts", desk)

    def test_spaces_and_line_feeds(self):
        for line in ("rooms", "undo", "cut 0 A", "cut 0 A 1 2", "unite 10", "room 0", "side N", "come 0", "meet 0 11",
                     "touch | aaaa aaab", "wish N without ba", "wish N counted b 2 0"):
            self.assertNotEqual(new_desk()(line), "unknown")
            bents = [" " + line, line + " ", line + "\n", "\n" + line, line + "\n" + line, line + " ."]
            for at, sign in enumerate(line):
                if sign == " ":
                    bents += [line[:at] + " " + line[at:], line[:at] + "\n" + line[at + 1:], line[:at] + line[at + 1:]]
            for bent in bents:
                desk = new_desk()
                before = seen_of(desk.floor)
                self.assertEqual(desk(bent), "unknown", repr(bent))
                self.assertEqual((seen_of(desk.floor), desk.log()), (before, [(bent, "unknown")]))

    def test_other_lines(self):
        for line in ["", " ", "\n", "  ", ".", "0", "a", "aaaa", "error", "unknown", "none", "say rooms", "log", "CUT 0 A", "~" * 4000,
                     "room\t0", *CHARACTERS]:
            self.check(line, "unknown")

    def test_each_known_form_by_calls(self):
        desk, other = new_desk(), new_desk().floor
        for line in ("room 0", "side N", "meet 0 11", "come 0", "wish E without bb", "touch - aaaa aabb", "rooms"):
            self.check(line, answer_by_calls(other, line), desk)

    def test_turns_by_lines(self):
        draw = random.Random(903)
        many = 0
        for _ in range(60):
            book, start, _ = draw_question(draw, 3)
            desk, model, floor = Desk(Floor(book, start)), Model(book, start), Floor(book, start)
            for _ in range(20):
                name, given = draw_turn(draw, model)
                if name not in ("cut", "unite", "undo", "redo") or not self.is_told(given):
                    continue
                expected = outcome(getattr(floor, name), *given)
                getattr(model, name)(*given)
                words = [name] + [str(one) for one in given]
                if given and given[0] == "":
                    words[1] = "."
                answer = f"error {expected[0]}" if isinstance(expected, tuple) else {None: "done", "": "none"}.get(expected, expected)
                self.assertEqual(desk(" ".join(words)), answer)
                self.assertEqual(seen_of(desk.floor), seen_of(floor))
                many += 1
        self.assertGreater(many, 500)

    def is_told(self, given):
        """Tell whether the arguments of a turn can be told by words."""
        strings = all(isinstance(one, str) and " " not in one for one in given[:2]) and given[1:2] != ("",)
        return strings and all(isinstance(one, int) and one in range(1000) and not isinstance(one, bool) for one in given[2:])


if __name__ == "__main__":
    unittest.main()
