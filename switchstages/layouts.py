"""Layouts: units in the stages of a chip, whether a layout is right, the early one, and ones that fit a chip."""

from switchstages.errors import InvalidChip, InvalidLayout, InvalidNumber, TooMany
from switchstages.fitting import MOST_STAGES, first_made, fitted_stages, living_at, over_in, spans_of_boxes
from switchstages.leanings import early_stages, leaned_on, least_gap, rules_of
from switchstages.plans import MOST_WAYS, Plan, most_ways
from switchstages.units import check_made, check_unit
from switchstages.wishes import wish_broken
from switchstages.words import is_number, is_row

MOST_GAP = 16
MOST_TRIES = 200


def is_layout(program, made, value):
    """Whether value is a layout of the made program, whatever it is."""
    check_made(program, made)
    return is_layout_of(made, value)


def is_layout_of(made, value):
    """Whether value is a gap and a stage for each unit."""
    if not is_row(value, 2, 2) or not is_number(value[0], 1, MOST_GAP):
        return False
    many = len(made[1])
    return is_row(value[1], many, many) and all([is_number(stage, 0, MOST_STAGES - 1) for stage in value[1]])


def is_chip(value):
    """Whether value is a chip, whatever it is."""
    bounds = ((1, 64), (1, 200), (0, 16), (0, 256), (0, 4000))
    if not is_row(value, 5, 5):
        return False
    return all([is_number(part, least, most) for part, (least, most) in zip(value, bounds)])


def wrong_in(program, made, layout):
    """The first wish that a layout does not keep; None if it is right."""
    check_layout(program, made, layout)
    plan = Plan(program, made)
    check_ways(plan)
    return wish_broken(plan, layout[0], layout[1])


def is_right(plan, layout):
    """Whether a layout is taken for a right one: it keeps all wishes, and no wish has too many ways."""
    return most_ways(plan) <= MOST_WAYS and wish_broken(plan, layout[0], layout[1]) is None


def leans_on(program, made, unit):
    """The units on which the unit with this index leans, ascending."""
    check_unit(program, made, unit)
    plan = Plan(program, made)
    check_ways(plan)
    return tuple(leaned_on(plan, unit))


def early(program, made):
    """The early layout."""
    check_made(program, made)
    return early_of(program, made)


def early_of(program, made):
    """What early tells, both parameters being right."""
    plan = Plan(program, made)
    check_ways(plan)
    stages = early_stages(rules_of(plan))
    many = max(stages + [0]) + 1
    if many > MOST_STAGES:
        raise TooMany(many)
    gap = least_gap(plan, stages)
    if gap > MOST_GAP:
        raise TooMany(gap)
    return gap, tuple(stages)


def lives(program, made, layout, stage):
    """The made boxes that live at the beginning of a stage, ascending."""
    check_layout(program, made, layout)
    if not is_number(stage, 0, MOST_STAGES - 1):
        raise InvalidNumber(stage)
    plan = Plan(program, made)
    check_ways(plan)
    return tuple(living_at(spans_of_boxes(plan, layout[1], first_made(program)), stage))


def over(program, made, layout, chip):
    """What of a layout does not fit a chip; None if it fits."""
    check_layout(program, made, layout)
    check_chip(chip)
    plan = Plan(program, made)
    check_ways(plan)
    return over_of(program, plan, made, layout, chip)


def over_of(program, plan, made, layout, chip):
    """What over tells, all of its parameters being right."""
    if wish_broken(plan, layout[0], layout[1]) is not None:
        return ("wrong",)
    return over_in(program, plan, made, layout[1], chip)


def fitted(program, made, gap, chip, most):
    """A layout with this gap that fits a chip; None if none of so many tries does."""
    check_wanted(program, made, gap, chip, most)
    plan = Plan(program, made)
    check_ways(plan)
    stages = fitted_stages(program, plan, made, (gap, chip), most)
    return None if stages is None else (gap, tuple(stages))


def check_layout(program, made, layout):
    """Raise the error of the first of these that is wrong."""
    check_made(program, made)
    if not is_layout_of(made, layout):
        raise InvalidLayout(layout)


def check_chip(chip):
    """Raise the error of what is no chip."""
    if not is_chip(chip):
        raise InvalidChip(chip)


def check_wanted(program, made, gap, chip, most):
    """Raise the error of the first of these that is wrong."""
    check_made(program, made)
    if not is_number(gap, 1, MOST_GAP):
        raise InvalidNumber(gap)
    check_chip(chip)
    if not is_number(most, 0, MOST_TRIES):
        raise InvalidNumber(most)


def check_ways(plan):
    """Raise the error of too many ways for one wish."""
    many = most_ways(plan)
    if many > MOST_WAYS:
        raise TooMany(many)
