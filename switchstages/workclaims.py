"""Claims of writings that are read, and of packets that are worked: which papers show them."""

from switchstages.contents import are_cells, are_contents
from switchstages.errors import InvalidWriting
from switchstages.headers import is_packet
from switchstages.programs import MOST_PACKETS, is_program, worked_in_row
from switchstages.texts import read_program
from switchstages.words import are_bytes, is_byte, is_nothing, is_row, is_same, is_text_of

WORK_CLAIMS = ("read", "not read", "worked", "not worked")
MOST_SENT = 224


def shows_of_work(kind, parts, paper):
    """Whether a paper shows the claim of this kind, one of reading or working, with these parts."""
    if not is_nothing(paper):
        return False
    if kind == "read" or kind == "not read":
        if len(parts) != 2 or not isinstance(parts[0], str):
            return False
        return is_read(parts[0], parts[1]) if kind == "read" else is_refused_by(parts[0], parts[1])
    if len(parts) != 6 or not are_worked_parts(parts):
        return False
    program, contents, cells, packets, outcomes, behind = parts
    is_so = worked_in_row(program, contents, cells, packets) == (outcomes, behind)
    return is_so if kind == "worked" else not is_so


def is_read(writing, program):
    """Whether a writing is read as this program."""
    if not is_program(program):
        return False
    try:
        return read_program(writing) == program
    except InvalidWriting:
        return False


def is_refused_by(writing, place):
    """Whether a writing is refused by this place."""
    try:
        read_program(writing)
    except InvalidWriting as refused:
        return is_same(place, refused.place)
    return False


def are_worked_parts(parts):
    """Whether parts are a program, contents, cells, packets, outcomes for these, and cells."""
    program, contents, cells, packets, outcomes, behind = parts
    if not is_program(program) or not are_contents(program, contents) or not are_cells(program, cells):
        return False
    if not is_row(packets, 0, MOST_PACKETS) or not all([is_packet(packet) for packet in packets]):
        return False
    many = len(packets)
    if not is_row(outcomes, many, many) or not all([is_outcome(outcome) for outcome in outcomes]):
        return False
    return are_cells(program, behind)


def is_outcome(value):
    """Whether value may be the outcome of a packet."""
    if is_text_of(value, ("refused", "gone")):
        return True
    return is_row(value, 2, 2) and is_byte(value[0]) and are_bytes(value[1], 0, MOST_SENT)
