"""What units do: what each one that is active reads and then writes."""

from switchstages.boxes import box_widths
from switchstages.contents import key_pairs
from switchstages.entries import first_hit
from switchstages.made import guard_of
from switchstages.reckoning import CONDS, is_so, reckoned, touched


class Deeds:
    """The tables and registers with which the units of a made program are done, and the cells as they are."""

    def __init__(self, program, contents, widths, cells):
        boxes = box_widths(program[0], program[1])
        self.pairs = [key_pairs(boxes, table) for table in program[6]]
        self.tables = program[6]
        self.contents = contents
        self.sizes = [(width, many) for _, width, many in program[4]]
        self.masks = [(1 << width) - 1 for width in widths]
        self.cells = [list(part) for part in cells]


def begun_boxes(deeds, filling):
    """All boxes of a packet with this filling, made ones 0."""
    return list(filling) + [0] * (len(deeds.masks) - len(filling))


def cells_now(deeds):
    """The cells as they are."""
    return tuple([tuple(part) for part in deeds.cells])


def is_active(unit, boxes):
    """Whether a unit is active by these boxes."""
    return all([boxes[atom] == worth for atom, worth in guard_of(unit)])


def do_unit(deeds, boxes, unit):
    """Do a unit by itself: what it reads is as it stands, and what it writes stands at once."""
    if is_active(unit, boxes):
        written, cell = effect_of(deeds, boxes, unit)
        write_boxes(deeds, boxes, written)
        write_cell(deeds, cell)


def write_boxes(deeds, boxes, written):
    """Write these words into these boxes."""
    for box, word in written:
        boxes[box] = word & deeds.masks[box]


def write_cell(deeds, cell):
    """Write a cell, if there is one: its register, its index, the word."""
    if cell is not None:
        at, index, word = cell
        deeds.cells[at][index] = word


def effect_of(deeds, boxes, unit):
    """What a unit writes by what it reads: pairs of a box and a word, and the cell that it touches, or None."""
    kind = unit[0]
    if kind == "look":
        return told_to_boxes(deeds, boxes, unit), None
    if kind == "touch":
        return effect_of_touch(deeds, boxes, unit)
    if kind == "set":
        return [(unit[2], worth_in(boxes, unit[3]))], None
    one, other = worth_in(boxes, unit[3]), worth_in(boxes, unit[4])
    if kind == "reckon":
        return [(unit[1], reckoned(unit[2], one, other))], None
    return [(unit[1], 1 if is_asked_so(unit[2], one, other) else 0)], None


def worth_in(boxes, operand):
    """What an operand is worth."""
    kind, number = operand
    return boxes[number] if kind == "box" else number


def is_asked_so(ask, one, other):
    """Whether an ask holds of two words."""
    if ask in CONDS:
        return is_so(ask, one, other)
    if ask == "not":
        return one == 0
    return one != 0 and other != 0 if ask == "both" else one != 0 or other != 0


def told_to_boxes(deeds, boxes, unit):
    """What a look writes: which action is told, and its arguments, noughts behind them."""
    _, index, sought, hit, behind = unit
    _, _, choice, default, _ = deeds.tables[index]
    pairs = deeds.pairs[index]
    words = [worth_in(boxes, part) & ((1 << width) - 1) for part, (_, width) in zip(sought, pairs)]
    entries = deeds.contents[index]
    at = first_hit(pairs, entries, words)
    action, args = default if at is None else entries[at][1:]
    filled = args + (0,) * (len(behind) - len(args))
    return [(hit, 1 + choice.index(action))] + list(zip(behind, filled))


def effect_of_touch(deeds, boxes, unit):
    """What a touch writes: the cell, and what it was."""
    _, _, at, one, way, other, box = unit
    width, many = deeds.sizes[at]
    index = worth_in(boxes, one) % many
    old = deeds.cells[at][index]
    word = worth_in(boxes, other) & ((1 << width) - 1)
    return [(box, old)], (at, index, touched(way, old, word, width))
