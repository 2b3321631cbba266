"""Programs and contents shown as writings, and read off writings."""

from switchstages.contents import are_contents
from switchstages.errors import InvalidContents, InvalidWriting
from switchstages.programs import check_program, is_program
from switchstages.reading import read_whole_contents, read_whole_program
from switchstages.shown import contents_rows, program_rows
from switchstages.signs import Reader


def show_program(program):
    """The writing of a program."""
    check_program(program)
    return "\n".join(program_rows(program))


def read_program(writing):
    """The program of a writing."""
    check_writing(writing)
    program = read_whole_program(Reader(writing))
    if not is_program(program):
        raise InvalidWriting(None)
    return program


def show_contents(program, contents):
    """The writing of contents of a program."""
    check_program(program)
    if not are_contents(program, contents):
        raise InvalidContents(contents)
    return "\n".join(contents_rows(program[6], contents))


def read_contents(program, writing):
    """The contents of a program that a writing tells."""
    check_program(program)
    check_writing(writing)
    return contents_read(program, writing)


def contents_read(program, writing):
    """What read_contents tells, program being one and writing a text."""
    contents = read_whole_contents(Reader(writing), program[6])
    if not are_contents(program, contents):
        raise InvalidWriting(None)
    return contents


def check_writing(writing):
    """Raise the error of what is no text."""
    if not isinstance(writing, str):
        raise InvalidWriting(None)
