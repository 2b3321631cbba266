"""Made programs: one row of units without choices, made of a program, and what they leave."""

from switchstages.boxes import box_widths, is_filling
from switchstages.deeds import Deeds, begun_boxes, cells_now, do_unit
from switchstages.errors import InvalidCells, InvalidContents, InvalidFilling, InvalidNumber, InvalidUnits, TooMany
from switchstages.contents import are_cells, are_contents
from switchstages.made import MOST_BOXES, MOST_UNITS, atom_written, boxes_read, boxes_written, is_made_of, worths_of
from switchstages.making import made_of
from switchstages.programs import check_program
from switchstages.words import is_number


def units_of(program):
    """The units made of a program, and the widths of their boxes."""
    check_program(program)
    made = made_of(program)
    check_small(made)
    return made


def is_small_enough(made):
    """Whether there are not too many units or boxes."""
    return len(made[1]) <= MOST_UNITS and len(made[0]) <= MOST_BOXES


def check_small(made):
    """Raise the error of too many units, or else of too many boxes."""
    if len(made[1]) > MOST_UNITS:
        raise TooMany(len(made[1]))
    if len(made[0]) > MOST_BOXES:
        raise TooMany(len(made[0]))


def is_made(program, value):
    """Whether value is a made program of the program, whatever it is."""
    check_program(program)
    return is_made_of(program, value)


def reads_of(program, made, unit):
    """The boxes that the unit with this index reads, ascending."""
    check_unit(program, made, unit)
    return boxes_read(made[1][unit])


def writes_of(program, made, unit):
    """The boxes that the unit with this index writes, ascending."""
    check_unit(program, made, unit)
    return tuple(sorted(boxes_written(made[1][unit])))


def atoms_of(program, made):
    """Each atom with its least and its greatest worth, ascending."""
    check_made(program, made)
    asked = [unit for unit in made[1] if atom_written(unit) is not None]
    return tuple(sorted([(atom_written(unit),) + worths_of(program, unit) for unit in asked]))


def done(program, contents, made, cells, filling):
    """The filling of all boxes and the cells behind the units, done one behind the other."""
    check_done(program, contents, made, cells)
    if not is_filling(box_widths(program[0], program[1]), filling):
        raise InvalidFilling(filling)
    return done_plainly(program, contents, made, cells, filling)


def done_plainly(program, contents, made, cells, filling):
    """What done tells, all of its parameters being right."""
    deeds = Deeds(program, contents, made[0], cells)
    boxes = begun_boxes(deeds, filling)
    for unit in made[1]:
        do_unit(deeds, boxes, unit)
    return tuple(boxes), cells_now(deeds)


def check_made(program, made):
    """Raise the error of the first of both that is wrong."""
    check_program(program)
    if not is_made_of(program, made):
        raise InvalidUnits(made)


def check_unit(program, made, unit):
    """Raise the error of the first of these that is wrong."""
    check_made(program, made)
    if not is_number(unit, 0, len(made[1]) - 1):
        raise InvalidNumber(unit)


def check_done(program, contents, made, cells):
    """Raise the error of the first of these that is wrong."""
    check_program(program)
    if not are_contents(program, contents):
        raise InvalidContents(contents)
    if not is_made_of(program, made):
        raise InvalidUnits(made)
    if not are_cells(program, cells):
        raise InvalidCells(cells)
