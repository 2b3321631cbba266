"""Programs: which values are some, and how packets are worked, one behind the other."""

from switchstages.boxes import box_name, box_widths, is_filling
from switchstages.contents import are_cells, are_contents
from switchstages.errors import InvalidCells, InvalidContents, InvalidFilling, InvalidPackets, InvalidProgram
from switchstages.headers import check_packet, is_packet
from switchstages.parsers import is_frame, parsed, sent
from switchstages.runs import Run, cells_left, run_control
from switchstages.steps import are_actions, are_tables, is_control
from switchstages.words import WORD_WIDTH, are_sized, are_unlike, is_name, is_number, is_row, names_in

MOST_LOCALS = 8
MOST_REGISTERS = 4
MOST_CELLS = 16
MOST_PACKETS = 100


def is_program(value):
    """Whether value is a program, whatever it is."""
    if not is_row(value, 8, 8):
        return False
    headers, own, parser, order, registers, actions, tables, control = value
    if not is_frame((headers, parser, order)) or not are_sized(own, 0, MOST_LOCALS) or not are_registers(registers):
        return False
    known = box_widths(headers, own)
    cells = names_in(registers)
    if not are_actions(known, cells, actions) or not are_tables(known, actions, tables):
        return False
    return is_control(known, cells, names_in(tables), control)


def are_registers(value):
    """Whether value is the registers of a program."""
    if not is_row(value, 0, MOST_REGISTERS) or not all([is_register(part) for part in value]):
        return False
    return are_unlike(names_in(value))


def is_register(value):
    """Whether value is a name, a width, and how many cells there are."""
    if not is_row(value, 3, 3) or not is_name(value[0]):
        return False
    return is_number(value[1], 1, WORD_WIDTH) and is_number(value[2], 1, MOST_CELLS)


def is_contents(program, value):
    """Whether value is contents of the program, whatever it is."""
    check_program(program)
    return are_contents(program, value)


def is_cells(program, value):
    """Whether value is cells of the program's registers, whatever it is."""
    check_program(program)
    return are_cells(program, value)


def boxes_of(program):
    """The names of the boxes of a packet."""
    check_program(program)
    return tuple([box_name(box) for box in box_widths(program[0], program[1])])


def widths_of(program):
    """The widths of the boxes of a packet."""
    check_program(program)
    return tuple(box_widths(program[0], program[1]).values())


def first_cells(program):
    """The cells at first."""
    check_program(program)
    return cells_at_first(program)


def cells_at_first(program):
    """What first_cells tells, program being one."""
    return tuple([(0,) * many for _, _, many in program[4]])


def worked(program, contents, cells, packet):
    """The outcome of a packet, and the cells then."""
    check_begun(program, contents, cells)
    check_packet(packet)
    run = Run(program, contents, cells)
    return outcome_of(program, run, packet), cells_left(run)


def worked_all(program, contents, cells, packets):
    """The outcomes of packets that are worked one behind the other, and the last cells."""
    check_begun(program, contents, cells)
    check_packets(packets)
    return worked_in_row(program, contents, cells, packets)


def worked_in_row(program, contents, cells, packets):
    """What worked_all tells, all of its parameters being right."""
    run = Run(program, contents, cells)
    return tuple([outcome_of(program, run, packet) for packet in packets]), cells_left(run)


def behind(program, contents, cells, filling):
    """The filling and the cells behind the control."""
    check_begun(program, contents, cells)
    if not is_filling(box_widths(program[0], program[1]), filling):
        raise InvalidFilling(filling)
    return left_behind(program, contents, cells, filling)


def left_behind(program, contents, cells, filling):
    """What behind tells, all of its parameters being right."""
    run = Run(program, contents, cells)
    return run_control(run, filling), cells_left(run)


def check_program(program):
    """Raise the error of what is no program."""
    if not is_program(program):
        raise InvalidProgram(program)


def check_begun(program, contents, cells):
    """Raise the error of the first of these that is wrong."""
    check_program(program)
    if not are_contents(program, contents):
        raise InvalidContents(contents)
    if not are_cells(program, cells):
        raise InvalidCells(cells)


def check_packets(packets):
    """Raise the error of what is no row of packets."""
    if not is_row(packets, 0, MOST_PACKETS):
        raise InvalidPackets(None)
    for index, packet in enumerate(packets):
        if not is_packet(packet):
            raise InvalidPackets(index)


def outcome_of(program, run, packet):
    """The outcome of a packet that is worked next; the cells of the run go on."""
    frame = (program[0], program[2], program[3])
    told = parsed(frame, packet)
    if told is None:
        return "refused"
    fields, rest = told
    filling = run_control(run, filling_of(program, packet[0], fields))
    if filling[2] == 1:
        return "gone"
    return filling[1], sent(frame, fields_of(program, filling), rest)


def filling_of(program, came_in, fields):
    """The filling of a packet that came in there and was parsed into these fields."""
    filling = (came_in, 0, 0) + (0,) * len(program[1])
    for header, words in zip(program[0], fields):
        filling = filling + ((0,) * (1 + len(header[1])) if words is None else (1,) + words)
    return filling


def fields_of(program, filling):
    """The fields of each header that this filling has; None for one that is not held."""
    at = 3 + len(program[1])
    fields = []
    for header in program[0]:
        end = at + 1 + len(header[1])
        fields.append(filling[at + 1:end] if filling[at] == 1 else None)
        at = end
    return tuple(fields)
