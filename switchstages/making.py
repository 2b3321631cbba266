"""The units made of a program: step by step, each further box behind the boxes ahead."""

from switchstages.boxes import box_widths
from switchstages.reckoning import CONDS, OPS
from switchstages.words import WORD_WIDTH, names_in

HIT_WIDTH = 3
NOUGHT = ("word", 0)


class Making:
    """Units and boxes as far as they are made, for a program whose boxes and tables are known by their names."""

    def __init__(self, program):
        headers, own, _, _, registers, actions, tables, _ = program
        boxes = box_widths(headers, own)
        self.at = {box: index for index, box in enumerate(boxes)}
        self.fields = {name: names_in(fields) for name, fields in headers}
        self.registers = names_in(registers)
        self.actions = {action[0]: action for action in actions}
        self.tables = tables
        self.widths = list(boxes.values())
        self.units = []
        # The boxes of the parameters of the action at hand, by their expressions.
        self.params = {}


def made_of(program):
    """The widths of all boxes, and the units, however many there are."""
    making = Making(program)
    make_block(making, program[7], ())
    return tuple(making.widths), tuple(making.units)


def further_box(making, width):
    """Take a further box of this width."""
    making.widths.append(width)
    return len(making.widths) - 1


def make_block(making, block, guard):
    """The units of all items of a block."""
    for item in block:
        if item[0] == "if":
            box = make_condition(making, item[1])
            make_block(making, item[2], guard + ((box, 1),))
            make_block(making, item[3], guard + ((box, 0),))
        elif item[0] == "table":
            make_table(making, item[1], guard)
        else:
            make_step(making, item, guard)


def make_table(making, name, guard):
    """The look of a table, and the units of each action that it may tell."""
    index = names_in(making.tables).index(name)
    _, table_keys, choice, _, _ = making.tables[index]
    most = max([len(making.actions[action][1]) for action in choice])
    hit = further_box(making, HIT_WIDTH)
    boxes = tuple([further_box(making, WORD_WIDTH) for _ in range(most)])
    sought = tuple([("box", making.at[place]) for place, _ in table_keys])
    making.units.append(("look", index, sought, hit, boxes))
    for at, action in enumerate(choice):
        _, params, steps = making.actions[action]
        making.params = {("param", param): box for (param, _), box in zip(params, boxes)}
        for step in steps:
            make_step(making, step, guard + ((hit, 1 + at),))
    making.params = {}


def make_step(making, step, guard):
    """The units of a step."""
    if step[0] == "set":
        inner = guard_within(making, step[1], guard)
        worth = make_expression(making, step[2])
        making.units.append(("set", inner, making.at[step[1]], worth))
    elif step[0] == "touch":
        make_touch(making, step, guard)
    else:
        held = 1 if step[0] == "put" else 0
        making.units.append(("set", guard, making.at[("held", step[1])], ("word", held)))
        for field in making.fields[step[1]]:
            making.units.append(("set", guard, making.at[("field", step[1], field)], NOUGHT))


def guard_within(making, place, guard):
    """The guard of what sets this place: a field is set only where its header is held."""
    if place[0] == "local":
        return guard
    return guard + ((make_ask(making, "other", ("box", making.at[("held", place[1])]), NOUGHT), 1),)


def make_touch(making, step, guard):
    """The units of a touch."""
    _, name, at, way, word, into = step
    one = make_expression(making, at)
    other = make_expression(making, word)
    box = further_box(making, WORD_WIDTH)
    making.units.append(("touch", guard, making.registers.index(name), one, way, other, box))
    if into is not None:
        inner = guard_within(making, into, guard)
        making.units.append(("set", inner, making.at[into], ("box", box)))


def make_expression(making, expression):
    """The operand to which an expression comes, behind its units."""
    if isinstance(expression, int):
        return ("word", expression)
    if expression[0] == "param":
        return ("box", making.params[expression])
    if expression[0] not in OPS:
        return ("box", making.at[expression])
    one = make_expression(making, expression[1])
    other = make_expression(making, expression[2])
    box = further_box(making, WORD_WIDTH)
    making.units.append(("reckon", box, expression[0], one, other))
    return ("box", box)


def make_condition(making, condition):
    """The box of the ask to which a condition comes, behind its units."""
    kind = condition[0]
    if kind in CONDS:
        one = make_expression(making, condition[1])
        return make_ask(making, kind, one, make_expression(making, condition[2]))
    one = ("box", make_condition(making, condition[1]))
    other = NOUGHT if kind == "not" else ("box", make_condition(making, condition[2]))
    return make_ask(making, kind, one, other)


def make_ask(making, kind, one, other):
    """The box of a further ask."""
    box = further_box(making, 1)
    making.units.append(("ask", box, kind, one, other))
    return box
