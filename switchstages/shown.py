"""The rows of the writings of programs and contents."""

from switchstages.reckoning import CONDS, OPS
from switchstages.signs import COND_MARKS, KEY_MARKS, OP_MARKS


def program_rows(program):
    """The rows of a program's writing."""
    headers, own, parser, order, registers, actions, tables, control = program
    rows = [row_of(["header", name] + joined(fields) + ["end"]) for name, fields in headers]
    rows.extend([row_of(["local", name, width]) for name, width in own])
    rows.extend([state_row(state) for state in parser])
    rows.append(row_of(["order"] + list(order) + ["end"]))
    rows.extend([row_of(["register"] + list(sizes)) for sizes in registers])
    for action in actions:
        rows.extend(action_rows(action))
    for table in tables:
        rows.extend(table_rows(table))
    return rows + ["control"] + block_rows(control) + ["end"]


def contents_rows(tables, contents):
    """The rows of the writing of contents of these tables."""
    rows = []
    for table, entries in zip(tables, contents):
        kinds = [kind for _, kind in table[1]]
        rows.append(row_of(["table", table[0]]))
        rows.extend([entry_row(kinds, entry) for entry in entries])
        rows.append("end")
    return rows


def row_of(parts):
    """One row: texts and numbers with a blank between each two of them."""
    return " ".join([str(part) for part in parts])


def joined(rows):
    """All that stands in some rows, one behind the other."""
    return [part for row in rows for part in row]


def state_row(state):
    """The row of a state."""
    name, header, onward = state
    parts = ["state", name] + ([] if header is None else ["read", header])
    if onward[0] != "by":
        return row_of(parts + list(onward))
    _, place, cases, aim = onward
    told = joined([("case",) + case for case in cases])
    return row_of(parts + ["by", place_text(place)] + told + ["else", aim])


def action_rows(action):
    """The rows of an action."""
    name, params, steps = action
    told = joined([("param",) + param for param in params])
    return [row_of(["action", name] + told)] + [step_row(step) for step in steps] + ["end"]


def table_rows(table):
    """The rows of a table."""
    name, sought, choice, default, room = table
    rows = [row_of(["table", name])]
    rows.extend([row_of(["key", place_text(place), kind]) for place, kind in sought])
    rows.extend([row_of(["action", action]) for action in choice])
    return rows + [row_of(["default"] + deed_parts(default)), row_of(["room", room])]


def deed_parts(deed):
    """The parts that tell an action and its arguments."""
    action, args = deed
    return [action] + list(args)


def entry_row(kinds, entry):
    """The row of an entry for keys of these kinds."""
    told = [sought_text(kind, sought) for kind, sought in zip(kinds, entry[0])]
    return row_of(["entry"] + told + ["then"] + deed_parts(entry[1:]))


def sought_text(kind, sought):
    """The text of what an entry seeks by one key."""
    if kind == "exact":
        return str(sought)
    first, second = sought
    return row_of([first, KEY_MARKS[kind], second])


def block_rows(block):
    """The rows of the items of a block."""
    rows = []
    for item in block:
        if item[0] == "if":
            rows.extend(if_rows(item))
        elif item[0] == "table":
            rows.append(row_of(["apply", item[1]]))
        else:
            rows.append(step_row(item))
    return rows


def if_rows(item):
    """The rows of an if."""
    _, condition, first, second = item
    rows = [row_of(["if", condition_text(condition), "then"])] + block_rows(first)
    if second != ():
        rows = rows + ["else"] + block_rows(second)
    return rows + ["end"]


def step_row(step):
    """The row of a step."""
    if step[0] == "set":
        return row_of(["set", place_text(step[1]), "=", expression_text(step[2])])
    if step[0] != "touch":
        return row_of(step)
    _, name, at, way, word, into = step
    parts = ["touch", name, "[", expression_text(at), "]", way, expression_text(word)]
    return row_of(parts + ([] if into is None else ["into", place_text(into)]))


def place_text(place):
    """The text of a place."""
    return ".".join(place[1:])


def expression_text(expression):
    """The text of an expression."""
    if isinstance(expression, int):
        return str(expression)
    kind = expression[0]
    if kind in OPS:
        mark = OP_MARKS[OPS.index(kind)]
        return row_of(["(", expression_text(expression[1]), mark, expression_text(expression[2]), ")"])
    if kind == "param":
        return "$" + expression[1]
    return row_of(expression) if kind == "held" else place_text(expression)


def condition_text(condition):
    """The text of a condition."""
    kind = condition[0]
    if kind in CONDS:
        mark = COND_MARKS[CONDS.index(kind)]
        return row_of([expression_text(condition[1]), mark, expression_text(condition[2])])
    if kind == "not":
        return row_of(["not", condition_text(condition[1])])
    joint = "and" if kind == "both" else "or"
    return row_of([kind, condition_text(condition[1]), joint, condition_text(condition[2])])
