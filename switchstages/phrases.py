"""How expressions, conditions, steps and blocks are read off a writing."""

# Writings may nest thousands deep, so that calls within calls would not do: what has begun is kept in lists.

from switchstages.reckoning import CONDS, OPS, WAYS
from switchstages.signs import COND_MARKS, OP_MARKS, is_written_number

STEP_WORDS = ("set", "put", "strike", "touch")
JOINING_WORDS = ("not", "both", "either")


def read_expression(reader):
    """The expression that is next."""
    # For each parenthesis that is open: nothing, or the operation and its first part.
    begun = []
    while True:
        while reader.may("("):
            begun.append([])
        whole = read_operand(reader)
        while begun and len(begun[-1]) == 2:
            reader.must(")")
            op, one = begun.pop()
            whole = (op, one, whole)
        if not begun:
            return whole
        mark = reader.read_one_of(OP_MARKS)
        begun[-1] = [OPS[OP_MARKS.index(mark)], whole]


def read_operand(reader):
    """The expression without parts that is next."""
    if reader.may("$"):
        return ("param", reader.read_name())
    if reader.may("held"):
        return ("held", reader.read_name())
    return reader.read_number() if is_written_number(reader.ahead()) else reader.read_place()


def read_condition(reader):
    """The condition that is next."""
    # For each joining word whose condition is open: the word, and the first part if that has been read.
    begun = []
    while True:
        while reader.ahead() in JOINING_WORDS:
            begun.append([reader.read_one_of(JOINING_WORDS)])
        whole = read_comparison(reader)
        while begun and (begun[-1][0] == "not" or len(begun[-1]) == 2):
            whole = tuple(begun.pop() + [whole])
        if not begun:
            return whole
        begun[-1].append(whole)
        reader.must("and" if begun[-1][0] == "both" else "or")


def read_comparison(reader):
    """The comparison that is next."""
    one = read_expression(reader)
    mark = reader.read_one_of(COND_MARKS)
    return (CONDS[COND_MARKS.index(mark)], one, read_expression(reader))


def read_steps(reader):
    """The steps that are next, as far as there are some."""
    steps = []
    while reader.ahead() in STEP_WORDS:
        steps.append(read_step(reader))
    return tuple(steps)


def read_step(reader):
    """The step that is next."""
    kind = reader.read_one_of(STEP_WORDS)
    if kind == "set":
        place = reader.read_place()
        reader.must("=")
        return (kind, place, read_expression(reader))
    if kind == "touch":
        return read_touch(reader)
    return (kind, reader.read_name())


def read_touch(reader):
    """The touch whose first word has been read."""
    name = reader.read_name()
    reader.must("[")
    at = read_expression(reader)
    reader.must("]")
    way = reader.read_one_of(WAYS)
    word = read_expression(reader)
    into = reader.read_place() if reader.may("into") else None
    return ("touch", name, at, way, word, into)


def read_block(reader):
    """The items that are next, and the end behind them."""
    # For each if that is open: the items ahead of it, its condition, and its first block if that has ended.
    begun = []
    items = []
    while True:
        items.extend(read_steps(reader))
        if reader.may("apply"):
            items.append(("table", reader.read_name()))
        elif reader.may("if"):
            begun.append([items, read_condition(reader)])
            reader.must("then")
            items = []
        elif begun and len(begun[-1]) == 2 and reader.may("else"):
            begun[-1].append(tuple(items))
            items = []
        else:
            reader.must("end")
            if not begun:
                return tuple(items)
            whole = if_of(begun[-1], tuple(items))
            items = begun.pop()[0]
            items.append(whole)


def if_of(parts, block):
    """The if that ends behind this block; parts are what has been read ahead of that."""
    if len(parts) == 2:
        return ("if", parts[1], block, ())
    return ("if", parts[1], parts[2], block)
