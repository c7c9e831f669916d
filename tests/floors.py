"""A live floor that is worked out anew behind each turn, with fractions; turns for it, and what is seen of a floor."""

from fractions import Fraction

from samples import laid_out, raised, told

PLACES = ((1, 2), (2, 4), (1, 3), (2, 3), (6, 9), (1, 100), (99, 100))


class Model:
    """What a live floor should be."""

    def __init__(self, book, start, limit=60):
        self.book, self.start, self.limit = book, start, limit
        self.cuts, self.done, self.undone = [], [], []

    def floor(self):
        return laid_out(self.book, self.start, self.cuts)

    def make(self, cuts):
        if cuts != self.cuts:
            self.done.append(self.cuts)
            self.undone = []
            self.cuts = cuts

    def cut(self, address, cutter, top=1, bottom=2):
        floor = self.floor()
        if not isinstance(address, str) or address not in floor:
            return "InvalidAddress", {"given": address}
        if not isinstance(cutter, str) or cutter not in tuple(self.book.cutters):
            return "InvalidCutter", {"given": cutter}
        if not is_place(top, bottom):
            return "InvalidPlace", {"given": (top, bottom)}
        cut = self.book.cut(floor[address][0], cutter)
        if cut and len(floor) >= self.limit:
            return "Full", {"most": self.limit}
        if cut:
            place = Fraction(top, bottom)
            self.make(self.cuts + [(address, cutter, place.numerator, place.denominator)])
        return cut

    def cut_all(self, *steps):
        for at, step in enumerate(steps):
            if not isinstance(step, tuple) or len(step) != 4 or not isinstance(step[0], str) or set(step[0]) - set("01"):
                return "InvalidStep", {"at": at}
            if not isinstance(step[1], str) or step[1] not in tuple(self.book.cutters) or not is_place(*step[2:]):
                return "InvalidStep", {"at": at}
        other = Model(self.book, self.start, self.limit)
        other.cuts = self.cuts
        found = []
        for step in steps:
            found.append(other.cut(*step))
            if isinstance(found[-1], tuple):
                return found[-1]
        self.make(other.cuts)
        return found

    def unite(self, address):
        cutters = {step[0]: step[1] for step in self.cuts}
        if not isinstance(address, str) or address not in cutters:
            return "InvalidAddress", {"given": address}
        if any(one != address and one.startswith(address) for one in cutters):
            return "NotUnited", {"given": address}
        self.make([step for step in self.cuts if step[0] != address])
        return cutters[address]

    def undo(self):
        if not self.done:
            return "NothingLeft", {}
        self.undone.append(self.cuts)
        self.cuts = self.done.pop()
        return None

    def redo(self):
        if not self.undone:
            return "NothingLeft", {}
        self.done.append(self.cuts)
        self.cuts = self.undone.pop()
        return None

    def set_limit(self, value):
        if not isinstance(value, int) or isinstance(value, bool) or not len(self.floor()) <= value <= 99:
            return "InvalidLimit", {"given": value}
        self.limit = value
        return None

    def twin(self):
        other = Model(self.book, self.start, self.limit)
        other.cuts, other.done, other.undone = self.cuts, list(self.done), list(self.undone)
        return other


def is_place(top, bottom):
    numbers = all(isinstance(one, int) and not isinstance(one, bool) for one in (top, bottom))
    return numbers and 0 < top < bottom


def seen_of(floor):
    """Return what a live floor tells of itself."""
    boxes = [(row[0], row[1], *[Fraction(one.top, one.bottom) for one in row[2:]]) for row in floor.boxes()]
    return {
        "cuts": floor.cuts(), "plain": floor.plain(), "rooms": floor.rooms(), "walk": list(floor.walk()), "boxes": boxes,
        "history": floor.history(), "busy": floor.busy, "len": len(floor), "repr": repr(floor), "limit": floor.limit,
        "truth": bool(floor), "start": floor.start,
    }


def seen_of_model(model):
    """Return what a live floor should tell of itself."""
    laid = model.floor()
    rooms = [(address, laid[address][0]) for address in sorted(laid)]
    return {
        "cuts": model.cuts, "plain": sorted(model.cuts), "rooms": rooms, "walk": rooms,
        "boxes": [(address, *laid[address]) for address in sorted(laid)],
        "history": (len(model.done), len(model.undone)), "busy": False, "len": len(laid),
        "repr": f"Floor({len(laid)} rooms)", "limit": model.limit, "truth": True, "start": model.start,
    }


def draw_address(draw, model):
    """Draw the address of a room that stands, now and then another one."""
    floor = model.floor()
    if draw.random() < 0.12:
        return draw.choice(["", "0", "1", "00", "11", "2", "0 ", None, 5, True, ("0",), [""]] + [step[0] for step in model.cuts])
    return draw.choice(sorted(floor))


def draw_place(draw):
    """Draw a place, now and then a wrong one."""
    if draw.random() < 0.06:
        return draw.choice([(0, 1), (1, 1), (2, 1), (-1, 2), (True, 2), (1, None), ("1", 2), (1, "2"), ([1], 2)])
    return draw.choice(PLACES)


def draw_cutter(draw, model):
    """Draw a cutter, now and then what is none."""
    return draw.choice(model.book.cutters) if draw.random() < 0.95 else draw.choice(["Z", "a", "", None, 1, model.book.cutters * 2])


def draw_turn(draw, model):
    """Draw a turn as a pair of the name of a method and its arguments; most of them can be done."""
    name = draw.choice(["cut"] * 7 + ["cut_all"] * 2 + ["unite"] * 3 + ["undo"] * 4 + ["redo"] * 3 + ["set_limit"])
    if name == "cut":
        place = draw_place(draw) if draw.random() < 0.8 else ()
        return name, (draw_address(draw, model), draw_cutter(draw, model), *place)
    if name == "cut_all":
        steps = []
        other = model.twin()
        for _ in range(draw.randint(0, 4)):
            step = (draw_address(draw, other), draw_cutter(draw, other), *draw_place(draw))
            if draw.random() < 0.03:
                step = draw.choice([list(step), step[:3], step + (1,), None])
            else:
                other.cut(*step)
            steps.append(step)
        return name, tuple(steps)
    if name == "unite":
        addresses = [step[0] for step in model.cuts] or [""]
        return name, (draw.choice(addresses) if draw.random() < 0.85 else draw_address(draw, model),)
    if name == "set_limit":
        return name, (draw.choice([1, 3, 7, 12, 60, 99, 0, 100, True, None, "7", len(model.floor())]),)
    return name, ()


def outcome(call, *given):
    """Return what a call returns, or the name and the attributes of the error that it raises."""
    try:
        return call(*given)
    except Exception:
        return told(raised(call, *given))


def do_turn(test, floor, model, turn):
    """Make one turn on a live floor and on its model; compare what they answer and what is seen then."""
    name, given = turn
    expected = getattr(model, name)(*given)
    answer = outcome(getattr(floor, name), *given)
    test.assertEqual(repr(answer), repr(expected), turn)
    test.assertEqual(seen_of(floor), seen_of_model(model), turn)
    return answer
