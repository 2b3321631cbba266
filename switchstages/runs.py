"""What a program does: its control and actions, step by step, on the boxes of one packet and the cells."""

from switchstages.boxes import box_widths
from switchstages.contents import key_pairs
from switchstages.entries import first_hit
from switchstages.reckoning import OPS, is_so, reckoned, touched


class Run:
    """A program at work, with the contents of its tables, the cells, and the boxes of the packet at hand."""

    def __init__(self, program, contents, cells):
        headers, own, _, _, registers, actions, tables, control = program
        self.control = control
        self.widths = box_widths(headers, own)
        self.places = {name: [("field", name, field) for field, _ in fields] for name, fields in headers}
        self.sizes = {name: (width, many) for name, width, many in registers}
        self.actions = {action[0]: action for action in actions}
        self.tables = {table[0]: table for table in tables}
        self.contents = {table[0]: part for table, part in zip(tables, contents)}
        self.cells = {sizes[0]: list(part) for sizes, part in zip(registers, cells)}
        # What each expression without parts is worth: boxes, and parameters of the action at hand.
        self.worths = {}


def run_control(run, filling):
    """Do the control on this filling; the filling that comes of it. The cells of the run go on."""
    run.worths = {box: word for box, word in zip(run.widths, filling)}
    do_block(run, run.control)
    return tuple([run.worths[box] for box in run.widths])


def cells_left(run):
    """The cells as they are now."""
    return tuple([tuple(cells) for cells in run.cells.values()])


def do_block(run, block):
    """Do all items of a block, one after the other."""
    for item in block:
        if item[0] == "if":
            do_block(run, item[2] if does_hold(run, item[1]) else item[3])
        elif item[0] == "table":
            name, args = deed_told(run, item[1])
            do_action(run, name, args)
        else:
            do_step(run, item)


def deed_told(run, name):
    """The action, by its name, and the arguments that the table of this name tells."""
    table = run.tables[name]
    entries = run.contents[name]
    index = first_hit(key_pairs(run.widths, table), entries, [run.worths[place] for place, _ in table[1]])
    return table[3] if index is None else entries[index][1:]


def do_action(run, name, args):
    """Do the steps of an action with these arguments."""
    _, params, steps = run.actions[name]
    for (param, _), word in zip(params, args):
        run.worths[("param", param)] = word
    for step in steps:
        do_step(run, step)


def do_step(run, step):
    """Do one step."""
    if step[0] == "set":
        set_place(run, step[1], worth_of(run, step[2]))
    elif step[0] == "touch":
        touch_cell(run, step)
    else:
        # What is put is empty, too, even if it was held.
        run.worths[("held", step[1])] = 1 if step[0] == "put" else 0
        for place in run.places[step[1]]:
            run.worths[place] = 0


def set_place(run, place, word):
    """Set a place to a word, unless it is a field of a header that is not held."""
    if place[0] == "local" or run.worths[("held", place[1])] == 1:
        run.worths[place] = word & ((1 << run.widths[place]) - 1)


def touch_cell(run, step):
    """Do a touch: the cell changes, and what it was is set."""
    _, name, at, way, operand, into = step
    width, many = run.sizes[name]
    index = worth_of(run, at) % many
    word = worth_of(run, operand) & ((1 << width) - 1)
    old = run.cells[name][index]
    run.cells[name][index] = touched(way, old, word, width)
    if into is not None:
        set_place(run, into, old)


def worth_of(run, expression):
    """What an expression is worth."""
    if isinstance(expression, int):
        return expression
    if expression[0] not in OPS:
        return run.worths[expression]
    op, one, other = expression
    return reckoned(op, worth_of(run, one), worth_of(run, other))


def does_hold(run, condition):
    """Whether a condition holds."""
    kind = condition[0]
    if kind == "not":
        return not does_hold(run, condition[1])
    if kind == "both":
        return does_hold(run, condition[1]) and does_hold(run, condition[2])
    if kind == "either":
        return does_hold(run, condition[1]) or does_hold(run, condition[2])
    return is_so(kind, worth_of(run, condition[1]), worth_of(run, condition[2]))
