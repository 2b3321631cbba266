"""Steps, actions, tables and control: which values are some in a program."""

from switchstages.boxes import is_known, is_place, is_target
from switchstages.entries import KINDS, MOST_KEYS, MOST_KEY_BITS
from switchstages.expressions import is_condition, is_expression
from switchstages.reckoning import WAYS
from switchstages.words import (
    are_sized, are_unlike, are_words_for, is_name, is_number, is_row, is_text_of, names_in,
)

MOST_ACTIONS = 12
MOST_PARAMS = 4
MOST_STEPS = 8
MOST_TABLES = 6
MOST_CHOICES = 6
MOST_ROOM = 32
MOST_BLOCK = 12
MOST_ITEMS = 40
DEEPEST_IF = 4


def is_step(known, cells, value):
    """Whether value is a step; cells are the names of the registers."""
    if not isinstance(value, tuple) or len(value) < 2 or not isinstance(value[0], str):
        return False
    kind, many = value[0], len(value)
    if kind == "set":
        return many == 3 and is_target(known, value[1]) and is_expression(known, value[2])
    if kind == "touch":
        return many == 6 and is_touch(known, cells, value)
    return many == 2 and kind in ("put", "strike") and is_known(known, ("held", value[1]))


def is_touch(known, cells, value):
    """Whether the five parts of value behind its first one are those of a touch."""
    _, name, at, way, word, into = value
    if not is_text_of(name, cells) or not is_text_of(way, WAYS):
        return False
    return is_expression(known, at) and is_expression(known, word) and (into is None or is_target(known, into))


def are_actions(known, cells, value):
    """Whether value is the actions of a program."""
    if not is_row(value, 1, MOST_ACTIONS):
        return False
    # What is known in actions: of parameters just those of the action at hand, taken away behind it.
    inside = {expression: width for expression, width in known.items()}
    if not all([is_action(inside, cells, action) for action in value]):
        return False
    return are_unlike(names_in(value))


def is_action(inside, cells, value):
    """Whether value is an action; what is known inside it is left as it was."""
    if not is_row(value, 3, 3) or not is_name(value[0]) or not are_sized(value[1], 0, MOST_PARAMS):
        return False
    _, params, steps = value
    for name, width in params:
        inside[("param", name)] = width
    are_steps = is_row(steps, 0, MOST_STEPS) and all([is_step(inside, cells, step) for step in steps])
    for name, _ in params:
        del inside[("param", name)]
    return are_steps


def are_tables(known, actions, value):
    """Whether value is the tables of a program with these actions."""
    params = {action[0]: action[1] for action in actions}
    if not is_row(value, 0, MOST_TABLES) or not all([is_table(known, params, table) for table in value]):
        return False
    return are_unlike(names_in(value))


def is_table(known, params, value):
    """Whether value is a table; params are those of each action."""
    if not is_row(value, 5, 5) or not is_name(value[0]) or not is_number(value[4], 1, MOST_ROOM):
        return False
    _, table_keys, choice, default, _ = value
    if not are_table_keys(known, table_keys) or not is_row(choice, 1, MOST_CHOICES):
        return False
    if not all([is_text_of(name, params) for name in choice]) or not are_unlike(choice):
        return False
    return is_row(default, 2, 2) and is_deed(choice, params, default[0], default[1])


def are_table_keys(known, value):
    """Whether value is the keys of a table of a program."""
    if not is_row(value, 1, MOST_KEYS) or not all([is_table_key(known, key) for key in value]):
        return False
    return sum([known[place] for place, _ in value]) <= MOST_KEY_BITS


def is_table_key(known, value):
    """Whether value is a place and a kind."""
    return is_row(value, 2, 2) and is_place(known, value[0]) and is_text_of(value[1], KINDS)


def is_deed(choice, params, action, args):
    """Whether an action is one of the choice, and args are right for its parameters."""
    return is_text_of(action, choice) and are_words_for(params[action], args)


def is_control(known, cells, tables, value):
    """Whether value is the control of a program with tables of these names."""
    found = items_in(known, value)
    if found is None:
        return False
    applied = [item[1] for item in found if is_apply(tables, item)]
    others = [item for item in found if not is_apply(tables, item)]
    return are_unlike(applied) and all([is_step(known, cells, item) for item in others])


def items_in(known, control):
    """All items of a control but its ifs; None if its blocks or ifs are wrong, or it has too many items."""
    found, many = [], 0
    blocks = [(control, 1)]
    while blocks:
        block, deep = blocks.pop()
        if not is_row(block, 0, MOST_BLOCK):
            return None
        many = many + len(block)
        # Blocks may stand in a value more often than they can be gone through, so this ends as early as it can.
        if many > MOST_ITEMS:
            return None
        for item in block:
            if deep <= DEEPEST_IF and is_if(known, item):
                blocks.extend([(item[2], deep + 1), (item[3], deep + 1)])
            else:
                found.append(item)
    return found


def is_if(known, value):
    """Whether value is an if, whatever its blocks are."""
    return is_row(value, 4, 4) and is_text_of(value[0], ("if",)) and is_condition(known, value[1])


def is_apply(tables, value):
    """Whether value is an item that applies a table."""
    return is_row(value, 2, 2) and is_text_of(value[0], ("table",)) and is_text_of(value[1], tables)
