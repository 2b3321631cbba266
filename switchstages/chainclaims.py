"""Claims of where units can stand, and of what can be laid into a chip: which papers show them."""

from switchstages.fitting import over_in, too_much_for
from switchstages.layouts import MOST_GAP, is_chip, is_layout_of, is_right
from switchstages.made import MOST_UNITS, is_made_of
from switchstages.plans import Plan
from switchstages.programs import is_program
from switchstages.wishclaims import does_touch_after, is_index, is_source_in, shared_register
from switchstages.words import is_number, is_row

CHAIN_CLAIMS = ("before", "not before", "laid", "not laid")
MOST_STAGE = 63


def shows_of_chain(kind, parts, paper):
    """Whether a paper shows the claim of this kind, one of stages that there have to be, with these parts."""
    if len(parts) != 4 or not is_program(parts[0]) or not is_made_of(parts[0], parts[1]):
        return False
    program, made, one, other = parts
    plan = Plan(program, made)
    if kind == "before" or kind == "not before":
        if not is_index(plan, one) or not is_number(other, 0, MOST_STAGE):
            return False
        if kind == "before":
            return is_layout_of(made, paper) and paper[1][one] < other and is_right(plan, paper)
        return is_chain(plan, paper) and len(paper) > other and paper[-1][0] == one
    if not is_number(one, 1, MOST_GAP) or not is_chip(other):
        return False
    if kind == "laid":
        if not is_layout_of(made, paper) or paper[0] != one or not is_right(plan, paper):
            return False
        return over_in(program, plan, made, paper[1], other) is None
    return shows_not_laid(program, plan, (one, other), paper)


def shows_not_laid(program, plan, wanted, paper):
    """Whether the paper shows that no layout fits, wanted being its gap and the chip."""
    gap, chip = wanted
    if not is_row(paper, 1, 2) or not isinstance(paper[0], str):
        return False
    if len(paper) == 1:
        return paper[0] in too_much_for(program, plan, chip)
    if paper[0] not in ("chain", "apart") or not is_chain(plan, paper[1]):
        return False
    chain = paper[1]
    if paper[0] == "chain":
        return len(chain) > chip[0]
    return len(chain) > gap and shared_register(plan, chain[0][0], chain[-1][0])


def is_chain(plan, value):
    """Whether value is a chain of units, each of which leans on the one ahead by what is told with it."""
    if not is_row(value, 1, MOST_UNITS):
        return False
    last = -1
    for pair in value:
        if not is_row(pair, 2, 2) or not is_number(pair[0], last + 1, len(plan.units) - 1):
            return False
        index, why = pair
        if last < 0 and why is not None or last >= 0 and not does_lean_by(plan, index, last, why):
            return False
        last = index
    return True


def does_lean_by(plan, index, other, why):
    """Whether a unit leans on another one further ahead by what is told."""
    if not is_row(why, 1, 3) or not isinstance(why[0], str):
        return False
    kind, many = why[0], len(why)
    if kind == "touch":
        return many == 1 and does_touch_after(plan, index, other)
    if many == 1 or not is_number(why[1], 0, len(plan.writers) - 1):
        return False
    if kind == "atom":
        return many == 2 and why[1] in plan.guards[index] and plan.makers[why[1]] == other
    return kind == "source" and many == 3 and is_source_in(plan, why[2], index, why[1], other)
