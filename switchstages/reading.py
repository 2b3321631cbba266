"""How programs and contents are read off a writing, by the forms alone."""

from switchstages.entries import KINDS
from switchstages.phrases import read_block, read_steps
from switchstages.signs import KEY_MARKS
from switchstages.states import ENDS
from switchstages.words import is_name


def read_whole_program(reader):
    """The program of a whole writing, as its forms tell it; it need not be one yet."""
    headers = read_all(reader, "header", read_fields)
    own = read_all(reader, "local", read_width)
    parser = read_all(reader, "state", read_onward)
    reader.must("order")
    order = reader.read_names()
    reader.must("end")
    registers = read_all(reader, "register", read_sizes)
    actions = read_all(reader, "action", read_deeds)
    tables = read_all(reader, "table", read_looks)
    reader.must("control")
    control = read_block(reader)
    reader.must_end()
    return headers, own, parser, order, registers, actions, tables, control


def read_all(reader, word, read_behind):
    """All that is next and begins with this word and a name: rows of the name and what is read behind it."""
    found = []
    while reader.may(word):
        name = reader.read_name()
        found.append((name,) + read_behind(reader))
    return tuple(found)


def read_fields(reader):
    """What stands behind the name of a header."""
    fields = []
    while is_name(reader.ahead()):
        name = reader.read_name()
        fields.append((name, reader.read_number()))
    reader.must("end")
    return (tuple(fields),)


def read_width(reader):
    """What stands behind the name of a local or a parameter."""
    return (reader.read_number(),)


def read_sizes(reader):
    """What stands behind the name of a register."""
    width = reader.read_number()
    return (width, reader.read_number())


def read_onward(reader):
    """What stands behind the name of a state."""
    header = reader.read_name() if reader.may("read") else None
    kind = reader.read_one_of(("accept", "refuse", "go", "by"))
    if kind == "go":
        return (header, (kind, reader.read_name()))
    if kind != "by":
        return (header, (kind,))
    place = reader.read_place()
    cases = []
    while reader.may("case"):
        word = reader.read_number()
        mask = reader.read_number()
        cases.append((word, mask, read_aim(reader)))
    reader.must("else")
    return (header, (kind, place, tuple(cases), read_aim(reader)))


def read_aim(reader):
    """The aim that is next."""
    return reader.take_if(reader.ahead() in ENDS or is_name(reader.ahead()))


def read_deeds(reader):
    """What stands behind the name of an action."""
    params = read_all(reader, "param", read_width)
    steps = read_steps(reader)
    reader.must("end")
    return (params, steps)


def read_looks(reader):
    """What stands behind the name of a table."""
    sought = []
    while reader.may("key"):
        place = reader.read_place()
        sought.append((place, reader.read_one_of(KINDS)))
    choice = []
    while reader.may("action"):
        choice.append(reader.read_name())
    reader.must("default")
    default = read_deed(reader)
    reader.must("room")
    return (tuple(sought), tuple(choice), default, reader.read_number())


def read_deed(reader):
    """The name of an action that is next, and its arguments."""
    name = reader.read_name()
    return (name, reader.read_numbers())


def read_whole_contents(reader, tables):
    """The contents of these tables in a whole writing, as its forms tell them; they need not be some yet."""
    contents = []
    for table in tables:
        reader.must("table")
        reader.must(table[0])
        kinds = [kind for _, kind in table[1]]
        entries = []
        while reader.may("entry"):
            entries.append(read_entry(reader, kinds))
        reader.must("end")
        contents.append(tuple(entries))
    reader.must_end()
    return tuple(contents)


def read_entry(reader, kinds):
    """The entry for keys of these kinds whose first word has been read."""
    told = tuple([read_sought(reader, kind) for kind in kinds])
    reader.must("then")
    return (told,) + read_deed(reader)


def read_sought(reader, kind):
    """What an entry seeks by a key of this kind."""
    first = reader.read_number()
    if kind == "exact":
        return first
    reader.must(KEY_MARKS[kind])
    return (first, reader.read_number())
