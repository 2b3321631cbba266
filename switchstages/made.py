"""Made programs: which values are some, and what their units read, write and ask."""

from switchstages.boxes import box_widths
from switchstages.making import HIT_WIDTH
from switchstages.reckoning import CONDS, OPS, WAYS
from switchstages.words import WORD_WIDTH, are_unlike, is_number, is_row, is_text_of, is_word

MOST_BOXES = 250
MOST_UNITS = 200
MOST_GUARD = 8
ASKS = CONDS + ("both", "either", "not")


def is_made_of(program, value):
    """Whether value is a made program of this program."""
    own = tuple(box_widths(program[0], program[1]).values())
    if not is_row(value, 2, 2) or not is_row(value[0], len(own), MOST_BOXES) or not is_row(value[1], 0, MOST_UNITS):
        return False
    widths, units = value
    if not all([is_number(width, 1, WORD_WIDTH) for width in widths]) or widths[:len(own)] != own:
        return False
    if not all([is_unit(program, widths, len(own), unit) for unit in units]):
        return False
    return are_written_alone(units) and are_guarded(program, units)


def is_unit(program, widths, first, value):
    """Whether value is a unit, whatever its guard and other units are; first is the index of the first made box."""
    if not is_row(value, 4, 7) or not isinstance(value[0], str):
        return False
    kind, many = value[0], len(value)
    if kind == "ask":
        return many == 5 and is_ask(widths, first, value)
    if kind == "look":
        return many == 5 and is_look(program, widths, first, value)
    if kind == "reckon":
        if many != 5 or not is_number(value[1], first, len(widths) - 1) or not is_text_of(value[2], OPS):
            return False
        return is_operand(widths, value[3]) and is_operand(widths, value[4])
    if kind == "set":
        return many == 4 and is_number(value[2], 0, len(widths) - 1) and is_operand(widths, value[3])
    return kind == "touch" and many == 7 and is_touch_unit(program, widths, value)


def is_ask(widths, first, value):
    """Whether the parts of value behind its first one are those of an ask."""
    _, box, ask, one, other = value
    if not is_number(box, first, len(widths) - 1) or widths[box] != 1 or not is_text_of(ask, ASKS):
        return False
    return is_operand(widths, one) and is_operand(widths, other)


def is_look(program, widths, first, value):
    """Whether the parts of value behind its first one are those of a look."""
    _, index, sought, hit, boxes = value
    if not is_number(index, 0, len(program[6]) - 1):
        return False
    _, table_keys, choice, _, _ = program[6][index]
    most = max([len(action[1]) for action in program[5] if action[0] in choice])
    if not is_row(sought, len(table_keys), len(table_keys)) or not is_row(boxes, most, most):
        return False
    if not all([is_operand(widths, part) for part in sought]):
        return False
    if not all([is_number(box, first, len(widths) - 1) for box in (hit,) + boxes]):
        return False
    return widths[hit] >= HIT_WIDTH


def is_touch_unit(program, widths, value):
    """Whether the parts of value behind its guard are those of a touch."""
    _, _, index, one, way, other, box = value
    if not is_number(index, 0, len(program[4]) - 1) or not is_text_of(way, WAYS):
        return False
    return is_operand(widths, one) and is_operand(widths, other) and is_number(box, 0, len(widths) - 1)


def is_operand(widths, value):
    """Whether value is a box that is there, or a word."""
    if not is_row(value, 2, 2) or not isinstance(value[0], str):
        return False
    if value[0] == "box":
        return is_number(value[1], 0, len(widths) - 1)
    return value[0] == "word" and is_word(value[1], WORD_WIDTH)


def are_written_alone(units):
    """Whether each box of an ask, a look or a reckon is written once, by this one."""
    alone = [box for unit in units if unit[0] not in ("set", "touch") for box in boxes_written(unit)]
    barred = {box: True for box in alone}
    shared = [box for unit in units if unit[0] in ("set", "touch") for box in boxes_written(unit)]
    return are_unlike(alone) and not any([box in barred for box in shared])


def are_guarded(program, units):
    """Whether each unit that has a guard asks atoms that are written further ahead, for worths that they have."""
    worths = {}
    for unit in units:
        if unit[0] in ("set", "touch"):
            if not is_guard(worths, unit[1]):
                return False
        elif unit[0] != "reckon":
            worths[atom_written(unit)] = worths_of(program, unit)
    return True


def is_guard(worths, value):
    """Whether value is a guard over atoms that have these worths."""
    if not is_row(value, 0, MOST_GUARD):
        return False
    last = -1
    for pair in value:
        if not is_row(pair, 2, 2) or not is_number(pair[0], last + 1, MOST_BOXES) or pair[0] not in worths:
            return False
        least, most = worths[pair[0]]
        if not is_number(pair[1], least, most):
            return False
        last = pair[0]
    return True


def worths_of(program, unit):
    """The least and the greatest worth of the atom of an ask or a look."""
    return (0, 1) if unit[0] == "ask" else (1, len(program[6][unit[1]][2]))


def atom_written(unit):
    """The atom that a unit writes; None for one that writes none."""
    if unit[0] == "ask":
        return unit[1]
    return unit[3] if unit[0] == "look" else None


def boxes_written(unit):
    """The boxes that a unit writes, as they stand in it."""
    kind = unit[0]
    if kind == "look":
        return (unit[3],) + unit[4]
    if kind == "set":
        return (unit[2],)
    return (unit[6],) if kind == "touch" else (unit[1],)


def operands_of(unit):
    """The operands of a unit, in order."""
    kind = unit[0]
    if kind == "look":
        return unit[2]
    if kind == "touch":
        return (unit[3], unit[5])
    return unit[3:]


def boxes_read(unit):
    """The boxes that a unit reads, each once, ascending."""
    return tuple(sorted(set([number for kind, number in operands_of(unit) if kind == "box"])))


def guard_of(unit):
    """The guard of a unit; what has none is always active, as with an empty one."""
    return unit[1] if unit[0] in ("set", "touch") else ()
