"""Plan: told rooms, whole floors, and the rooms that rectangles make."""

import random
import unittest

from fourwalls.grids import Plan
from samples import any_values, draw_room, raised, told

FACES = "abc"
# Three rooms on a floor of three by two.
ROOMS = [(0, 0, 1, 2, "aaba"), (1, 0, 3, 1, "abca"), (1, 1, 3, 2, "cbba")]


def draw_rooms(draw, faces, wide, high, chance=0.75):
    """Draw told rooms that cover a floor, made by cuts through rooms; the faces are drawn, too."""
    waiting = [(0, 0, wide, high)]
    rooms = []
    while waiting:
        west, north, east, south = waiting.pop()
        places = [("|", at) for at in range(west + 1, east)] + [("-", at) for at in range(north + 1, south)]
        if not places or draw.random() > chance:
            rooms.append((west, north, east, south, draw_room(draw, faces)))
            continue
        sign, at = draw.choice(places)
        if sign == "|":
            waiting += [(west, north, at, south), (at, north, east, south)]
        else:
            waiting += [(west, north, east, at), (west, at, east, south)]
    return rooms


def boxes_in(wide, high):
    """Return all rectangles of a floor."""
    return [(west, north, east, south) for west in range(wide) for north in range(high)
            for east in range(west + 1, wide + 1) for south in range(north + 1, high + 1)]


def made_by(rooms, box):
    """Return the room that a rectangle makes, or None, straight from [15]."""
    west, north, east, south = box
    inside = [room for room in rooms if west <= room[0] and north <= room[1] and room[2] <= east and room[3] <= south]
    if sum((room[2] - room[0]) * (room[3] - room[1]) for room in inside) != (east - west) * (south - north):
        return None
    sides = [{room[4][0] for room in inside if room[1] == north}, {room[4][1] for room in inside if room[2] == east},
             {room[4][2] for room in inside if room[3] == south}, {room[4][3] for room in inside if room[0] == west}]
    return "".join(min(side) for side in sides) if all(len(side) == 1 for side in sides) else None


class Plans(unittest.TestCase):
    def test_in_any_order(self):
        draw = random.Random(301)
        for rooms in (ROOMS, ROOMS[::-1], tuple(ROOMS[1:] + ROOMS[:1])):
            plan = Plan(FACES, 3, 2, rooms)
            self.assertEqual((plan.faces, plan.wide, plan.high, plan.rooms()), (FACES, 3, 2, ROOMS))
            self.assertEqual((plan.whole(), len(plan), bool(plan), repr(plan)), ((0, 0, 3, 2), 3, True, "Plan(3 rooms)"))
            self.assertEqual(plan, Plan(FACES, 3, 2, ROOMS))
        for _ in range(60):
            wide, high = draw.randint(1, 12), draw.randint(1, 12)
            rooms = draw_rooms(draw, FACES, wide, high)
            draw.shuffle(rooms)
            before = list(rooms)
            plan = Plan(rooms=rooms, high=high, wide=wide, faces=FACES)
            self.assertEqual((rooms, plan.rooms(), plan.whole()), (before, sorted(rooms), (0, 0, wide, high)))
            self.assertEqual((len(plan), repr(plan)), (len(rooms), f"Plan({len(rooms)} rooms)"))
        self.assertEqual(repr(Plan("a", 1, 1, [(0, 0, 1, 1, "aaaa")])), "Plan(1 rooms)")

    def test_most(self):
        self.assertEqual((Plan.MOST, Plan("a", 1, 1, [(0, 0, 1, 1, "aaaa")]).MOST), (12, 12))
        plan = Plan("a", 12, 12, [(x, y, x + 1, y + 1, "aaaa") for y in range(12) for x in range(12)])
        self.assertEqual((len(plan), plan.whole(), plan.room_of(plan.whole())), (144, (0, 0, 12, 12), "aaaa"))
        self.assertEqual(len(Plan("a", 12, 1, [(0, 0, 12, 1, "aaaa")])), 1)

    def test_lists_are_copied_and_new(self):
        rooms = list(ROOMS)
        plan = Plan(FACES, 3, 2, rooms)
        rooms.pop()
        plan.rooms().clear()
        self.assertEqual(plan.rooms(), ROOMS)

    def test_equality(self):
        plan = Plan(FACES, 3, 2, ROOMS)
        bent = ROOMS[:2] + [(1, 1, 3, 2, "cbbb")]
        for other in (Plan("abcd", 3, 2, ROOMS), Plan(FACES, 3, 2, bent), Plan(FACES, 3, 2, [(0, 0, 3, 2, "aaba")]),
                      Plan(FACES, 2, 3, [(0, 0, 2, 3, "aaba")]), *any_values(), ROOMS, "Plan(3 rooms)"):
            self.assertIs(plan == other, False)
            self.assertIs(plan != other, True)
            self.assertIs(other == plan, False)
        self.assertIs(Plan(FACES, 2, 1, [(0, 0, 2, 1, "aaba")]) == Plan(FACES, 2, 2, [(0, 0, 2, 2, "aaba")]), False)
        self.assertIs(plan == Plan(FACES, 3, 2, tuple(ROOMS[::-1])), True)
        self.assertIs(plan != Plan(FACES, 3, 2, ROOMS), False)

    def test_own_methods(self):
        for name in ("rooms", "whole", "room_of", "__eq__", "__len__", "__repr__", "MOST"):
            self.assertIn(name, vars(Plan))


class Made(unittest.TestCase):
    def test_by_hand(self):
        plan = Plan(FACES, 3, 2, ROOMS)
        found = {box: plan.room_of(box) for box in boxes_in(3, 2)}
        self.assertEqual({box: room for box, room in found.items() if room is not None}, {
            (0, 0, 1, 2): "aaba", (1, 0, 3, 1): "abca", (1, 1, 3, 2): "cbba", (1, 0, 3, 2): "abba", (0, 0, 3, 2): "abba"})
        self.assertEqual(plan.room_of(box=(1, 0, 3, 2)), "abba")
        bent = Plan(FACES, 3, 2, ROOMS[:2] + [(1, 1, 3, 2, "ccba")])
        self.assertIsNone(bent.room_of((1, 0, 3, 2)))
        # The faces on the stretches inside a rectangle are free.
        self.assertEqual(Plan(FACES, 3, 2, [ROOMS[0], (1, 0, 3, 1, "abab"), ROOMS[2]]).room_of((1, 0, 3, 2)), None)
        self.assertEqual(Plan(FACES, 3, 2, [ROOMS[0], (1, 0, 3, 1, "abaa"), ROOMS[2]]).room_of((1, 0, 3, 2)), "abba")

    def test_what_is_no_rectangle_makes_no_room(self):
        plan = Plan(FACES, 3, 2, ROOMS)
        for value in any_values() + [(0, 0, 4, 2), (0, 0, 0, 2), (True, 0, 3, 1), [0, 0, 1, 2], (0, 0, 1, 2, "aaba"), (-1, 0, 1, 2)]:
            self.assertIsNone(plan.room_of(value))

    def test_all_rectangles(self):
        draw = random.Random(302)
        made = 0
        for _ in range(250):
            wide, high = draw.randint(1, 5), draw.randint(1, 5)
            rooms = draw_rooms(draw, draw.choice(("a", "ab", "abc")), wide, high)
            plan = Plan(FACES, wide, high, rooms)
            for box in boxes_in(wide, high):
                room = made_by(rooms, box)
                self.assertEqual(plan.room_of(box), room)
                made += room is not None
        self.assertGreater(made, 2000)

    def test_rooms_of_a_ring(self):
        ring = [(0, 0, 2, 1), (2, 0, 3, 2), (1, 2, 3, 3), (0, 1, 1, 3), (1, 1, 2, 2)]
        plan = Plan("a", 3, 3, [box + ("aaaa",) for box in ring])
        for box in boxes_in(3, 3):
            self.assertEqual(plan.room_of(box), "aaaa" if box in ring or box == (0, 0, 3, 3) else None)


class Errors(unittest.TestCase):
    def test_faces_then_sizes_then_rooms(self):
        for value in any_values() + ["ba", "abcdefg", "aa"]:
            if value != "a":
                self.assertEqual(told(raised(Plan, value, None, None, None)), ("InvalidFaces", {"given": value}))
        for value in any_values() + [13, 14, 400]:
            if not isinstance(value, int) or isinstance(value, bool) or not 1 <= value <= 12:
                self.assertEqual(told(raised(Plan, FACES, value, None, None)), ("InvalidNumber", {"given": value}))
                self.assertEqual(told(raised(Plan, FACES, 12, value, None)), ("InvalidNumber", {"given": value}))
        for value in any_values():
            # No item of these lists is a told room, and an empty list covers nothing.
            at = 0 if isinstance(value, (list, tuple)) else -1
            self.assertEqual(told(raised(Plan, FACES, 3, 2, value)), ("InvalidPlan", {"at": at}))

    def test_first_wrong_item(self):
        for value in any_values() + self.wrong_rooms():
            for at in range(3):
                rooms = ROOMS[:at] + [value] + ROOMS[at + 1:] + [None]
                self.assertEqual(told(raised(Plan, FACES, 3, 2, rooms)), ("InvalidPlan", {"at": at}), value)

    def wrong_rooms(self):
        right = (1, 1, 3, 2, "cbba")
        found = [list(right), right[:4], right + (1,), right[:3] + ("cbba",), ((1, 1, 3, 2), "cbba"), (1, 1, 3, "cbba")]
        for at in range(4):
            for value in any_values() + [3, 4, -2]:
                if not isinstance(value, int) or isinstance(value, bool) or value < 0 or value > 3 - at % 2:
                    found.append(right[:at] + (value,) + right[at + 1:])
        for value in any_values() + ["abcd", "abc", "abcaa"]:
            if value != "aaaa":
                found.append(right[:4] + (value,))
        return found + [(1, 1, 1, 2, "cbba"), (2, 1, 1, 2, "cbba"), (1, 2, 3, 2, "cbba"), (1, 2, 3, 1, "cbba"),
                        (True, 1, 3, 2, "cbba"), (1, True, 3, 2, "cbba"), (0, 0, True, 2, "aaba"), (False, 0, 1, 2, "aaba")]

    def test_overlaps(self):
        for at in range(3):
            for box in ((0, 0, 1, 1), (0, 1, 2, 2), (0, 0, 3, 2), (2, 1, 3, 2), (1, 0, 3, 1)):
                inside = any(box[0] < room[2] and room[0] < box[2] and box[1] < room[3] and room[1] < box[3]
                             for room in ROOMS[:at])
                if inside:
                    rooms = ROOMS[:at] + [box + ("aaaa",)] + ROOMS[at:] + [None]
                    self.assertEqual(told(raised(Plan, FACES, 3, 2, rooms)), ("InvalidPlan", {"at": at}))
        for at in range(3):
            rooms = ROOMS + [ROOMS[at]]
            self.assertEqual(told(raised(Plan, FACES, 3, 2, rooms)), ("InvalidPlan", {"at": 3}))

    def test_bent_rooms(self):
        draw = random.Random(303)
        seen = set()
        for _ in range(400):
            wide, high = draw.randint(1, 5), draw.randint(1, 5)
            rooms = draw_rooms(draw, FACES, wide, high)
            at = draw.randrange(len(rooms))
            box = list(rooms[at][:4])
            box[draw.randrange(4)] += draw.choice((-1, 1))
            bent = rooms[:at] + [(*box, rooms[at][4])] + rooms[at + 1:]
            wrong = self.first_wrong(bent, wide, high)
            self.assertEqual(told(raised(Plan, FACES, wide, high, bent)), ("InvalidPlan", {"at": wrong}))
            seen.add("covers" if wrong == len(rooms) else "item" if wrong == at else "later")
        self.assertEqual(seen, {"covers", "item", "later"})

    def first_wrong(self, rooms, wide, high):
        cells = set()
        for at, (west, north, east, south, _) in enumerate(rooms):
            if not (0 <= west < east <= wide and 0 <= north < south <= high):
                return at
            for cell in [(x, y) for x in range(west, east) for y in range(north, south)]:
                if cell in cells:
                    return at
                cells.add(cell)
        return len(rooms)

    def test_rooms_that_do_not_cover_the_floor(self):
        self.assertEqual(told(raised(Plan, FACES, 3, 2, [])), ("InvalidPlan", {"at": 0}))
        for at in range(3):
            self.assertEqual(told(raised(Plan, FACES, 3, 2, ROOMS[:at] + ROOMS[at + 1:])), ("InvalidPlan", {"at": 2}))
        self.assertEqual(told(raised(Plan, FACES, 4, 2, ROOMS)), ("InvalidPlan", {"at": 3}))
        self.assertEqual(told(raised(Plan, FACES, 2, 2, ROOMS)), ("InvalidPlan", {"at": 1}))


if __name__ == "__main__":
    unittest.main()
