"""Claims of units, layouts and flows: which papers show them."""

from switchstages.arrivals import are_arrivals, is_sent_alike
from switchstages.boxes import box_widths, is_filling
from switchstages.contents import are_cells, are_contents
from switchstages.flowing import Flow, flow_told
from switchstages.flows import are_coming
from switchstages.layouts import is_layout_of, is_right
from switchstages.made import is_made_of
from switchstages.making import made_of
from switchstages.plans import Plan
from switchstages.programs import is_program, left_behind
from switchstages.units import done_plainly, is_small_enough
from switchstages.wishclaims import shows_wish_broken
from switchstages.words import is_nothing, is_row, is_same

LAID_CLAIMS = (
    "done alike", "done otherwise", "right", "not right", "sent alike", "sent otherwise", "flows", "clashes",
)


def shows_of_laid(kind, parts, paper):
    """Whether a paper shows the claim of this kind, one of units, layouts or flows, with these parts."""
    if len(parts) < 2 or not is_program(parts[0]):
        return False
    if kind == "done alike" or kind == "done otherwise":
        if len(parts) != 2 or not is_made_of(parts[0], parts[1]):
            return False
        if kind == "done alike":
            return is_same(paper, ("units",)) and parts[1] == made_of(parts[0])
        return is_row(paper, 3, 3) and is_done_otherwise(parts[0], parts[1], paper)
    if kind == "right" or kind == "not right":
        return len(parts) == 3 and shows_layout(kind, parts, paper)
    if kind == "sent alike" or kind == "sent otherwise":
        return len(parts) == 2 and shows_sent(kind, parts[0], parts[1], paper)
    return len(parts) == 8 and is_nothing(paper) and is_flow_told(kind, parts)


def is_done_otherwise(program, made, paper):
    """Whether the paper tells contents, cells and a filling by which units leave something else than control does."""
    contents, cells, filling = paper
    if not are_contents(program, contents) or not are_cells(program, cells):
        return False
    if not is_filling(box_widths(program[0], program[1]), filling):
        return False
    return is_unlike_done(program, made, paper)


def is_unlike_done(program, made, begun):
    """Whether from these contents, cells and filling on units leave something else than control does."""
    contents, cells, filling = begun
    boxes, left = done_plainly(program, contents, made, cells, filling)
    return (boxes[:len(filling)], left) != left_behind(program, contents, cells, filling)


def shows_layout(kind, parts, paper):
    """Whether the paper shows that a layout is right, or is not."""
    program, made, layout = parts
    if not is_made_of(program, made) or not is_layout_of(made, layout):
        return False
    plan = Plan(program, made)
    if kind == "right":
        return is_nothing(paper) and is_right(plan, layout)
    return shows_wish_broken(plan, layout[0], layout[1], paper)


def shows_sent(kind, program, layout, paper):
    """Whether the paper shows that a layout of the units made of a program sends the same, or does not."""
    made = made_of(program)
    if not is_small_enough(made) or not is_layout_of(made, layout):
        return False
    if kind == "sent alike":
        return is_same(paper, ("right",)) and is_right(Plan(program, made), layout)
    if not is_row(paper, 3, 3) or not are_contents(program, paper[0]) or not are_cells(program, paper[1]):
        return False
    return are_arrivals(layout[0], paper[2]) and not is_sent_alike(program, made, layout, paper)


def is_flow_told(kind, parts):
    """Whether flows or clashes is a claim with these parts, and so."""
    program, contents, made, layout, cells, coming, one, other = parts
    if not are_contents(program, contents) or not is_made_of(program, made) or not is_layout_of(made, layout):
        return False
    if not are_cells(program, cells) or not are_coming(box_widths(program[0], program[1]), coming):
        return False
    told = flow_told(Flow(program, contents, made, layout[1], cells, coming))
    return is_same(("through" if kind == "flows" else "clash", one, other), told)
