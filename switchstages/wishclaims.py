"""Papers that show which wish a layout does not keep."""

from switchstages.plans import are_active_together, atoms_asked
from switchstages.words import is_number, is_row


def is_way_for(plan, indexes, value):
    """Whether value is a way for these units: a worth for just each atom of their guards, ascending."""
    atoms = atoms_asked(plan, indexes)
    if not is_row(value, len(atoms), len(atoms)):
        return False
    for atom, pair in zip(atoms, value):
        if not is_row(pair, 2, 2) or not is_number(pair[0], atom, atom):
            return False
        worths = plan.worths[atom]
        if not is_number(pair[1], worths[0], worths[-1]):
            return False
    return True


def is_active_in(plan, index, way):
    """Whether the unit with this index is active in a way for it; the end always is."""
    if index == len(plan.units):
        return True
    return all([pair in way for pair in plan.guards[index].items()])


def is_index(plan, value):
    """Whether value is an index of a unit."""
    return is_number(value, 0, len(plan.units) - 1)


def shows_wish_broken(plan, gap, stages, paper):
    """Whether the paper shows that this layout does not keep a wish."""
    if not is_row(paper, 3, 6) or not isinstance(paper[0], str):
        return False
    kind, many = paper[0], len(paper)
    if kind == "source":
        return many == 6 and shows_source(plan, stages, paper)
    if kind == "late":
        return many == 3 and is_index(plan, paper[1]) and shows_late(plan, stages, paper[1], paper[2])
    if kind == "gap":
        if many != 3 or not is_index(plan, paper[1]) or not is_index(plan, paper[2]):
            return False
        return shared_register(plan, paper[1], paper[2]) and stages[paper[2]] - stages[paper[1]] >= gap
    if many != 4 or not is_index(plan, paper[2]) or not is_index(plan, paper[3]) or paper[2] >= paper[3]:
        return False
    if kind == "once":
        return stages[paper[2]] == stages[paper[3]] and shows_once(plan, paper)
    return kind == "order" and stages[paper[3]] <= stages[paper[2]] and shows_order(plan, paper)


def shows_late(plan, stages, index, atom):
    """Whether a unit asks this atom, and does not stand in a later stage than its writer."""
    if not is_number(atom, 0, len(plan.writers) - 1) or atom not in plan.guards[index]:
        return False
    return stages[index] <= stages[plan.makers[atom]]


def shows_once(plan, paper):
    """Whether both units write one box in this way."""
    _, way, one, other = paper
    return any([
        is_way_for(plan, plan.writers[box], way) and is_active_in(plan, one, way) and is_active_in(plan, other, way)
        for box in plan.writes[one] if box in plan.writes[other]
    ])


def shared_register(plan, one, other):
    """Whether both units touch one register."""
    return any([one in touches and other in touches for touches in plan.touches])


def shows_order(plan, paper):
    """Whether both units touch one register in this way."""
    _, way, one, other = paper
    return any([
        is_way_for(plan, touches, way) and is_active_in(plan, one, way) and is_active_in(plan, other, way)
        for touches in plan.touches if one in touches and other in touches
    ])


def shows_source(plan, stages, paper):
    """Whether a box has these unlike sources for a reader in this way, plainly and by the stages."""
    _, way, index, box, plain, staged = paper
    end = len(plan.units)
    if not is_number(index, 0, end) or not is_number(box, 0, len(plan.writers) - 1):
        return False
    if not is_source_told(plan, plain) or not is_source_told(plan, staged) or plain == staged:
        return False
    if index < end and box not in plan.reads[index]:
        return False
    writers = plan.writers[box]
    if not is_way_for(plan, writers if index == end else writers + [index], way) or not is_active_in(plan, index, way):
        return False
    active = [other for other in writers if is_active_in(plan, other, way)]
    ahead = [other for other in active if other < index]
    if plain != (ahead[-1] if ahead else None):
        return False
    lesser = [other for other in active if index == end or stages[other] < stages[index]]
    return is_staged_source(stages, lesser, staged)


def is_source_told(plan, value):
    """Whether value may be a source: None or an index of a unit."""
    return value is None or is_index(plan, value)


def is_staged_source(stages, lesser, staged):
    """Whether of the active writers in lesser stages just this one stands in the greatest; None if there are none."""
    if not lesser:
        return staged is None
    most = max([stages[other] for other in lesser])
    return [other for other in lesser if stages[other] == most] == [staged]


def is_source_in(plan, way, index, box, other):
    """Whether this one is the source of a box for a unit, plainly, in a way for it and the writers of the box."""
    if box not in plan.reads[index] or not is_way_for(plan, plan.writers[box] + [index], way):
        return False
    ahead = [writer for writer in plan.writers[box] if writer < index and is_active_in(plan, writer, way)]
    return is_active_in(plan, index, way) and ahead != [] and ahead[-1] == other


def does_touch_after(plan, index, other):
    """Whether both units touch one register, and are active together in some way."""
    return shared_register(plan, index, other) and are_active_together(plan, index, other)
