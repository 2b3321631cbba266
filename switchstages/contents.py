"""Contents of a program's tables, and its registers' cells: which values are some."""

from switchstages.boxes import box_widths
from switchstages.entries import are_sought
from switchstages.steps import is_deed
from switchstages.words import is_row, is_word


def are_contents(program, value):
    """Whether value is contents of this program."""
    headers, own, _, _, _, actions, tables, _ = program
    if not is_row(value, len(tables), len(tables)):
        return False
    widths = box_widths(headers, own)
    params = {action[0]: action[1] for action in actions}
    return all([are_entries_of(widths, params, table, part) for table, part in zip(tables, value)])


def are_entries_of(widths, params, table, value):
    """Whether value is entries of this table; params are those of each action."""
    _, _, choice, _, room = table
    if not is_row(value, 0, room):
        return False
    pairs = key_pairs(widths, table)
    return all([is_entry_of(pairs, choice, params, entry) for entry in value])


def is_entry_of(pairs, choice, params, value):
    """Whether value is an entry for keys of these kinds and widths, and one of these actions."""
    if not isinstance(value, tuple) or len(value) != 3:
        return False
    return are_sought(pairs, value[0]) and is_deed(choice, params, value[1], value[2])


def key_pairs(widths, table):
    """The kind and the width of each key of a table."""
    return tuple([(kind, widths[place]) for place, kind in table[1]])


def are_cells(program, value):
    """Whether value is cells of this program's registers."""
    registers = program[4]
    if not is_row(value, len(registers), len(registers)):
        return False
    return all([are_cells_of(width, many, part) for (_, width, many), part in zip(registers, value)])


def are_cells_of(width, many, value):
    """Whether value is the cells of a register that has so many, of this width."""
    return is_row(value, many, many) and all([is_word(cell, width) for cell in value])
