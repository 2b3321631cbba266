"""Packets worked through the stages of a chip, beat by beat."""

from switchstages.boxes import box_widths, is_filling
from switchstages.deeds import cells_now
from switchstages.errors import InvalidCells, InvalidComing, InvalidContents, InvalidNumber
from switchstages.contents import are_cells, are_contents
from switchstages.flowing import Flow, clash_ahead, flow_told, last_stage
from switchstages.layouts import check_layout
from switchstages.programs import check_program
from switchstages.words import is_number, is_row

MOST_COMING = 40
MOST_BEAT = 1000
MOST_BEAT_ASKED = 1100


def flow(program, contents, made, layout, cells, coming):
    """What the flow of all that comes leaves, or where it clashes."""
    check_flow(program, contents, made, layout, cells, coming)
    return flow_told(Flow(program, contents, made, layout[1], cells, coming))


def stand(program, contents, made, layout, cells, coming, beat):
    """What stands in the chip ahead of a beat, and the cells; None if something has clashed."""
    check_flow(program, contents, made, layout, cells, coming)
    if not is_number(beat, 0, MOST_BEAT_ASKED):
        raise InvalidNumber(beat)
    return standing(Flow(program, contents, made, layout[1], cells, coming), beat)


def standing(chip_flow, beat):
    """What stand tells of a flow."""
    if clash_ahead(chip_flow, beat) is not None:
        return None
    last = last_stage(chip_flow)
    here = [
        (comer, beat - entry, tuple(boxes))
        for comer, (entry, boxes) in enumerate(zip(chip_flow.beats, chip_flow.boxes)) if entry <= beat <= entry + last
    ]
    return tuple(here), cells_now(chip_flow.deeds)


def wrong_comer(widths, coming):
    """The index of the first element that is no pair of a beat above the one ahead and a filling; None if all are."""
    last = -1
    for index, pair in enumerate(coming):
        if not is_row(pair, 2, 2) or not is_number(pair[0], last + 1, MOST_BEAT) or not is_filling(widths, pair[1]):
            return index
        last = pair[0]
    return None


def are_coming(widths, value):
    """Whether value is what comes: a row of pairs of a beat and a filling."""
    return is_row(value, 0, MOST_COMING) and wrong_comer(widths, value) is None


def check_flow(program, contents, made, layout, cells, coming):
    """Raise the error of the first of these that is wrong."""
    check_program(program)
    if not are_contents(program, contents):
        raise InvalidContents(contents)
    check_layout(program, made, layout)
    if not are_cells(program, cells):
        raise InvalidCells(cells)
    if not is_row(coming, 0, MOST_COMING):
        raise InvalidComing(None)
    index = wrong_comer(box_widths(program[0], program[1]), coming)
    if index is not None:
        raise InvalidComing(index)
