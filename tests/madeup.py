"""Made programs that no program comes to, and what a layout of them has to keep, told way by way."""

import itertools

from switchstages.boxes import box_widths
from tests.makers import CONDS, KINDS, OPS, WAYS, Maker

IN, OUT, GONE = ("local", "in"), ("local", "out"), ("local", "gone")
ACTIONS = (
    ("one", (), (("set", OUT, 1),)), ("two", (("p", 8), ("q", 16)), (("set", OUT, ("param", "p")),)),
    ("three", (("p", 4),), (("set", GONE, 1),)),
)
TABLES = (
    ("first", ((IN, "range"), (OUT, "mask")), ("one", "two", "three"), ("two", (3, 4)), 4),
    ("second", ((OUT, "prefix"),), ("one", "three"), ("one", ()), 2), ("third", ((IN, "exact"),), ("one",),
        ("one", ()), 32),
)
# Two registers, three tables of three, two and one actions, one header of one field.
BASE = (
    (("head", (("kind", 8),)),), (("old", 16),), (("start", "head", ("accept",)),), ("head",),
    (("hits", 16, 4), ("best", 8, 3)), ACTIONS, TABLES, (),
)
OWN = tuple(box_widths(BASE[0], BASE[1]).values())


def made_up(maker, most_units=8):
    """A made program of the base, with few boxes that many units write."""
    kinds = [maker.pick(["ask", "ask", "look", "reckon"] + ["set"] * 4 + ["touch"] * 2) for _ in range(
        maker.upto(most_units))]
    widths = list(OWN)
    shared = [1, 4, len(widths), len(widths) + 1][:1 + maker.upto(3)]
    widths += [7, 1]
    begun = []
    for kind in kinds:
        table = maker.upto(2)
        many = {"ask": 1, "reckon": 1, "look": 1 + (2, 1, 0)[table]}.get(kind, 0)
        begun.append((kind, table, list(range(len(widths), len(widths) + many))))
        widths += [{"ask": 1, "reckon": 1 + maker.upto(31), "look": 3 + maker.upto(5)}[kind]] * many if many else []
    units, atoms = [], {}
    for kind, table, boxes in begun:
        units.append(unit_of(maker, (widths, shared, atoms), kind, table, boxes))
        if kind == "ask":
            atoms[boxes[0]] = (0, 1)
        if kind == "look":
            atoms[boxes[0]] = tuple(range(1, 1 + len(TABLES[table][2])))
    return tuple(widths), tuple(units)


def unit_of(maker, there, kind, table, boxes):
    widths, shared, atoms = there
    if kind == "ask":
        ask = maker.pick(CONDS + ("both", "either", "not"))
        return ("ask", boxes[0], ask, operand(maker, widths, shared), operand(maker, widths, shared))
    if kind == "look":
        sought = tuple(operand(maker, widths, shared) for _ in TABLES[table][1])
        return ("look", table, sought, boxes[0], tuple(boxes[1:]))
    if kind == "reckon":
        return ("reckon", boxes[0], maker.pick(OPS), operand(maker, widths, shared), operand(maker, widths, shared))
    asked = sorted(maker.chance.sample(list(atoms), min(len(atoms), maker.pick([0, 1, 1, 2, 3]))))
    guard = tuple((atom, maker.pick(atoms[atom])) for atom in asked)
    box = maker.pick(shared)
    if kind == "set":
        return ("set", guard, box, operand(maker, widths, shared))
    one, other = operand(maker, widths, shared), operand(maker, widths, shared)
    return ("touch", guard, maker.upto(1), one, maker.pick(WAYS), other, box)


def operand(maker, widths, shared):
    if maker.upto(3) == 0:
        return ("word", maker.word(32))
    return ("box", maker.pick([maker.pick(shared), maker.pick(shared), maker.upto(len(widths) - 1)]))


class Told:
    """What is told of a made program of the base, from its units as they stand."""

    def __init__(self, program, made):
        self.program, self.widths, self.units = program, made[0], made[1]
        self.end = len(self.units)
        self.worths, self.maker = {}, {}
        for index, unit in enumerate(self.units):
            if unit[0] == "ask":
                self.worths[unit[1]], self.maker[unit[1]] = [0, 1], index
            if unit[0] == "look":
                many = len(program[6][unit[1]][2])
                self.worths[unit[3]], self.maker[unit[3]] = list(range(1, many + 1)), index

    def guard(self, index):
        return self.units[index][1] if index < self.end and self.units[index][0] in ("set", "touch") else ()

    def reads(self, index):
        unit = self.units[index]
        parts = {"ask": unit[3:], "reckon": unit[3:], "look": unit[2], "set": unit[3:]}.get(unit[0])
        parts = (unit[3], unit[5]) if unit[0] == "touch" else parts
        return sorted({number for kind, number in parts if kind == "box"})

    def writes(self, index):
        unit = self.units[index]
        if unit[0] == "look":
            return sorted((unit[3], *unit[4]))
        return [{"ask": unit[1], "reckon": unit[1], "set": unit[2], "touch": unit[-1]}[unit[0]]]

    def writers(self, box):
        return [index for index in range(self.end) if box in self.writes(index)]

    def touches(self, number):
        return [index for index, unit in enumerate(self.units) if unit[0] == "touch" and unit[2] == number]

    def ways(self, indexes):
        """All ways for these units, in order."""
        atoms = sorted({atom for index in indexes for atom, _ in self.guard(index)})
        return [tuple(zip(atoms, way)) for way in itertools.product(*[self.worths[atom] for atom in atoms])]

    def active(self, index, way):
        return all(pair in way for pair in self.guard(index))

    def plain(self, index, box, way):
        """The source of a box for a unit, or the end, done plainly."""
        found = [other for other in self.writers(box) if other < index and self.active(other, way)]
        return found[-1] if found else None

    def staged(self, index, box, way, stages):
        """All sources of a box by the stages: there is one at most if nothing is written twice in a stage."""
        found = [other for other in self.writers(box) if self.active(other, way)]
        if index < self.end:
            found = [other for other in found if stages[other] < stages[index]]
        most = max([stages[other] for other in found], default=None)
        return [other for other in found if stages[other] == most] or [None]

    def wrongs(self, gap, stages):
        """All wishes that are broken, in the order in which they are told."""
        found = []
        for index in range(self.end):
            found += [("late", index, atom) for atom, _ in self.guard(index) if
                stages[index] <= stages[self.maker[atom]]]
        once = []
        for box in range(len(self.widths)):
            writers = self.writers(box)
            for one, other in itertools.combinations(writers, 2):
                if stages[one] == stages[other]:
                    once += [(one, other, way) for way in self.ways(writers) if self.active(one, way) and self.active(
                        other, way)]
        found += [("once", way, one, other) for one, other, way in sorted(once)]
        for index in range(self.end + 1):
            for box in self.reads(index) if index < self.end else range(len(self.widths)):
                found += self.wrong_sources(index, box, stages)
        for number in range(len(self.program[4])):
            touches = self.touches(number)
            for one, other in itertools.combinations(touches, 2):
                if stages[other] <= stages[one]:
                    found += [("order", way, one, other) for way in self.ways(touches) if self.active(one, way) and
                        self.active(other, way)]
        for number in range(len(self.program[4])):
            row = [(stages[index], index) for index in self.touches(number)]
            if row and max(row)[0] - min(row)[0] >= gap:
                found.append(("gap", min(row)[1], min(index for stage, index in row if stage == max(row)[0])))
        return found

    def wrong_sources(self, index, box, stages):
        found = []
        for way in self.ways(self.writers(box) + [index]):
            if self.active(index, way):
                plain, staged = self.plain(index, box, way), self.staged(index, box, way, stages)
                if staged != [plain]:
                    found.append(("source", way, index, box, plain, staged[0]))
        return found

    def together(self, one, other):
        """Whether both are active in some way."""
        asked = dict(self.guard(one))
        return all(asked.get(atom, worth) == worth for atom, worth in self.guard(other))

    def leans(self, index):
        found = set()
        for atom, _ in self.guard(index):
            found.add(self.maker[atom])
        for box in self.reads(index):
            for way in self.ways(self.writers(box) + [index]):
                if self.active(index, way) and self.plain(index, box, way) is not None:
                    found.add(self.plain(index, box, way))
        if self.units[index][0] == "touch":
            found |= {other for other in self.touches(self.units[index][2]) if other < index and self.together(index,
                other)}
        return sorted(found)

    def early(self):
        stages = []
        for index in range(self.end):
            least = max([stages[other] + 1 for other in self.leans(index)] + [0])
            for other in range(index):
                if self.together(index, other):
                    if set(self.writes(index)) & set(self.reads(other)):
                        least = max(least, stages[other])
                    if set(self.writes(index)) & set(self.writes(other)):
                        least = max(least, stages[other] + 1)
            stages.append(least)
        gap = 1
        for number in range(len(self.program[4])):
            row = [stages[index] for index in self.touches(number)]
            gap = max(gap, max(row) - min(row) + 1) if row else gap
        return gap, tuple(stages)

    def most_ways(self):
        found = [1]
        for box in range(len(self.widths)):
            writers = self.writers(box)
            readers = [index for index in range(self.end) if box in self.reads(index)] + [self.end]
            found += [self.many_ways(writers + [index]) for index in readers]
        return max(found + [self.many_ways(self.touches(number)) for number in range(len(self.program[4]))])

    def many_ways(self, indexes):
        many = 1
        for atom in {atom for index in indexes for atom, _ in self.guard(index)}:
            many *= len(self.worths[atom])
        return many

    def lives(self, stages, stage):
        found = []
        for box in range(len(OWN) if self.program is BASE else 0, len(self.widths)):
            asks = [index for index in range(self.end) if box in self.reads(index) or box in dict(self.guard(index))]
            if any(stages[index] < stage for index in self.writers(box)) and any(stages[index] >= stage for index in
                asks):
                found.append(box)
        return tuple(found)

    def over(self, layout, chip):
        gap, stages = layout
        many, units, looks, room, bits = chip
        if self.wrongs(gap, stages):
            return ("wrong",)
        found = [("stages", stage) for stage in sorted(stages) if stage >= many]
        here = [[index for index in range(self.end) if stages[index] == stage] for stage in range(64)]
        look = [[self.units[index] for index in row if self.units[index][0] == "look"] for row in here]
        found += [("units", stage) for stage in range(64) if len(here[stage]) > units]
        found += [("looks", stage) for stage in range(64) if len(look[stage]) > looks]
        found += [("room", stage) for stage in range(64) if sum(self.program[6][unit[1]][4] for unit in
            look[stage]) > room]
        found += [("bits", stage) for stage in range(64) if sum(self.widths[box] for box in self.lives(stages,
            stage)) > bits]
        return found[0] if found else None


def laid_about(maker, told):
    """A layout: the early one, or one somewhere near it, or any."""
    gap, stages = told.early()
    kind = maker.upto(5)
    if kind == 1:
        stages = tuple(2 * stage for stage in stages)
    if kind in (2, 3) and stages:
        at = maker.upto(len(stages) - 1)
        stages = stages[:at] + (max(0, stages[at] + maker.pick([-1, 1])),) + stages[at + 1:]
    if kind == 4:
        stages = tuple(max(0, stage + maker.pick([0, 0, 0, -1, 1])) for stage in stages)
    if kind == 5:
        stages = tuple(maker.upto(4) for _ in stages)
    return min(16, max(1, gap + maker.pick([0, 0, 0, 1, -1]))), stages


def cases(many, most_units=8):
    """So many made programs, each with its maker and what is told of it."""
    for seed in range(many):
        maker = Maker(seed)
        made = made_up(maker, most_units)
        yield maker, made, Told(BASE, made)


__all__ = ["BASE", "KINDS", "OWN", "Told", "cases", "laid_about", "made_up"]
