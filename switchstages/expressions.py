"""Expressions and conditions: which values are some, by what is known in them."""

from switchstages.boxes import is_known
from switchstages.reckoning import CONDS, OPS
from switchstages.words import WORD_WIDTH, is_row, is_word

DEEPEST_EXPRESSION = 5
DEEPEST_CONDITION = 4


def is_expression(known, value):
    """Whether value is an expression."""
    return is_expression_within(known, DEEPEST_EXPRESSION, value)


def is_expression_within(known, deep, value):
    """Whether value is an expression that is at most this deep."""
    if deep == 0:
        return False
    if is_row(value, 3, 3) and isinstance(value[0], str) and value[0] in OPS:
        return all([is_expression_within(known, deep - 1, part) for part in value[1:]])
    return is_word(value, WORD_WIDTH) or is_known(known, value)


def is_condition(known, value):
    """Whether value is a condition."""
    return is_condition_within(known, DEEPEST_CONDITION, value)


def is_condition_within(known, deep, value):
    """Whether value is a condition that is at most this deep."""
    if deep == 0 or not is_row(value, 2, 3) or not isinstance(value[0], str):
        return False
    kind, parts = value[0], value[1:]
    if kind in CONDS:
        return len(parts) == 2 and all([is_expression(known, part) for part in parts])
    many = {"not": 1, "both": 2, "either": 2}.get(kind)
    return len(parts) == many and all([is_condition_within(known, deep - 1, part) for part in parts])
