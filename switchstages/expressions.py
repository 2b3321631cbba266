"""Expressions and conditions: which values are some, by what is known in them."""

from switchstages.boxes import is_known
from switchstages.reckoning import CONDS, MOST_WORD, OP_WORDS

DEEPEST_EXPRESSION = 5
DEEPEST_CONDITION = 4


def is_expression(known, value, deep=DEEPEST_EXPRESSION):
    """Whether value is an expression that is at most this deep."""
    # Each call that is passed a program comes here for each of its expressions, so little is left to other functions.
    if isinstance(value, int):
        return deep > 0 and 0 <= value <= MOST_WORD and not isinstance(value, bool)
    if deep == 0 or not isinstance(value, tuple):
        return False
    if len(value) != 3 or not isinstance(value[0], str):
        return is_known(known, value)
    first, one, other = value
    if first in OP_WORDS:
        return is_expression(known, one, deep - 1) and is_expression(known, other, deep - 1)
    return isinstance(one, str) and isinstance(other, str) and value in known


def is_condition(known, value):
    """Whether value is a condition."""
    return is_condition_within(known, DEEPEST_CONDITION, value)


def is_condition_within(known, deep, value):
    """Whether value is a condition that is at most this deep."""
    if deep == 0 or not isinstance(value, tuple) or not 2 <= len(value) <= 3 or not isinstance(value[0], str):
        return False
    if value[0] in CONDS:
        return len(value) == 3 and is_expression(known, value[1]) and is_expression(known, value[2])
    if value[0] == "not":
        return len(value) == 2 and is_condition_within(known, deep - 1, value[1])
    if len(value) != 3 or value[0] not in ("both", "either"):
        return False
    return is_condition_within(known, deep - 1, value[1]) and is_condition_within(known, deep - 1, value[2])
