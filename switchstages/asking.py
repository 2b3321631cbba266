"""Lines of the console that only ask: each one is answered by what its state tells."""

from switchstages.answers import (
    NOT_UNDERSTOOD, clash_shown, outcome_shown, over_shown, row_of_numbers, rows_or_none,
)
from switchstages.boxes import box_widths
from switchstages.contents import key_pairs
from switchstages.flowing import Flow, sent_by_chip
from switchstages.flows import MOST_BEAT_ASKED, standing
from switchstages.layouts import over_of
from switchstages.made import boxes_read, boxes_written
from switchstages.making import made_of
from switchstages.numerals import chip_in, numbers_in
from switchstages.parsers import parsed
from switchstages.plans import Plan
from switchstages.programs import filling_of, worked_in_row
from switchstages.shown import contents_rows, program_rows
from switchstages.tables import idle_among

NO_LAYOUT = "no layout"


def over_asked(state, words):
    """What of the layout does not fit a chip."""
    numbers = numbers_in(words)
    if numbers is None or chip_in(numbers) is None:
        return NOT_UNDERSTOOD
    program, _, _, layout, _ = state
    if layout is None:
        return NO_LAYOUT
    made = made_of(program)
    return over_shown(over_of(program, Plan(program, made), made, layout, chip_in(numbers)))


def stand_asked(state, words):
    """What stands in the chip ahead of a beat."""
    numbers = numbers_in(words)
    if numbers is None or len(numbers) != 1 or numbers[0] > MOST_BEAT_ASKED:
        return NOT_UNDERSTOOD
    program, contents, cells, layout, coming = state
    if layout is None:
        return NO_LAYOUT
    frame = (program[0], program[2], program[3])
    entering = [(beat, filling_of(program, packet[0], parsed(frame, packet)[0])) for beat, packet in coming]
    told = standing(Flow(program, contents, made_of(program), layout[1], cells, entering), numbers[0])
    if told is None:
        return "clashed"
    own = len(box_widths(program[0], program[1]))
    rows = [row_of_numbers(f"{comer} in {stage}:", boxes[:own]) for comer, stage, boxes in told[0]]
    return "\n".join(rows + [row_of_numbers("cells", [cell for row in told[1] for cell in row])])


def flow_asked(state, words):
    """What the chip sends of all that comes, and whether that is the same as plainly."""
    if words:
        return NOT_UNDERSTOOD
    program, contents, cells, layout, coming = state
    if layout is None:
        return NO_LAYOUT
    told = sent_by_chip(program, contents, made_of(program), layout[1], cells, coming)
    if told[0] == "clash":
        return clash_shown(told[1], told[2])
    rows = [f"{index}: " + outcome_shown(outcome) for index, outcome in enumerate(told[1])]
    plainly = worked_in_row(program, contents, cells, tuple([packet for _, packet in coming]))
    return "\n".join(rows + ["the same" if told[1:] == plainly else "unlike"])


def show_asked(state):
    """The program's writing."""
    return "\n".join(program_rows(state[0]))


def entries_asked(state):
    """The writing of the contents."""
    return "\n".join(contents_rows(state[0][6], state[1]))


def cells_asked(state):
    """The cells, register by register."""
    return rows_or_none([row_of_numbers(part[0], row) for part, row in zip(state[0][4], state[2])])


def units_asked(state):
    """The units, with what they write and read."""
    return rows_or_none([
        row_of_numbers(f"{index} {unit[0]} writes", sorted(boxes_written(unit)))
        + row_of_numbers(" reads", boxes_read(unit))
        for index, unit in enumerate(made_of(state[0])[1])
    ])


def forms_asked(state):
    """The idle entries, table by table."""
    widths = box_widths(state[0][0], state[0][1])
    return rows_or_none([
        row_of_numbers(table[0], idle_among(key_pairs(widths, table), part))
        for table, part in zip(state[0][6], state[1])
    ])


def coming_asked(state):
    """The packets that come."""
    return rows_or_none([row_of_numbers(f"{beat}:", (packet[0],) + packet[1]) for beat, packet in state[4]])


ASKED_BY_WORDS = {"over": over_asked, "stand": stand_asked, "flow": flow_asked}
ASKED_ALONE = {
    "show": show_asked, "entries": entries_asked, "cells": cells_asked, "units": units_asked, "forms": forms_asked,
    "coming": coming_asked,
}


def answer_to(state, word, words):
    """The answer to a line that only asks."""
    if word in ASKED_BY_WORDS:
        asked = ASKED_BY_WORDS[word]
        return asked(state, words)
    if words:
        return NOT_UNDERSTOOD
    alone = ASKED_ALONE[word]
    return alone(state)
