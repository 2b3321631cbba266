"""The wishes that a right layout keeps: which one of them is not kept, and in which way."""

from switchstages.plans import atoms_asked, is_met, is_missed, joined, way_told, with_worth


def wish_broken(plan, gap, stages):
    """The first wish that this layout does not keep; None if it is right."""
    for broken in (late_in, once_in, source_in, order_in):
        found = broken(plan, stages)
        if found is not None:
            return found
    return gap_in(plan, gap, stages)


def late_in(plan, stages):
    """The first unit that does not stand behind a writer of its guard's atoms."""
    for index, guard in enumerate(plan.guards):
        for atom in guard:
            if stages[index] <= stages[plan.makers[atom]]:
                return ("late", index, atom)
    return None


def once_in(plan, stages):
    """The first two units in one stage that write one box in some way."""
    pairs = [
        (one, other, box)
        for box, writers in enumerate(plan.writers) for one in writers for other in writers
        if one < other and stages[one] == stages[other]
    ]
    for one, other, box in sorted(pairs):
        both = joined(plan.guards[one], plan.guards[other])
        if both is not None:
            return ("once", way_told(plan, both, atoms_asked(plan, plan.writers[box])), one, other)
    return None


def source_in(plan, stages):
    """The first reader that finds another source than it should; the end is the last one."""
    end = len(plan.units)
    for index, boxes in enumerate(plan.reads):
        for box in boxes:
            found = source_wrong(plan, stages, index, box, plan.guards[index])
            if found is not None:
                return found
    for box in range(len(plan.writers)):
        found = source_wrong(plan, stages, end, box, {})
        if found is not None:
            return found
    return None


def source_wrong(plan, stages, index, box, guard):
    """How a box has another source for a reader by the stages than plainly; None if it has not."""
    writers = plan.writers[box]
    # The end is behind all units, and in a later stage than any.
    is_end = index == len(plan.units)
    plain = [writer for writer in writers if writer < index]
    staged = by_stage(stages, [writer for writer in writers if is_end or stages[writer] < stages[index]])
    atoms = atoms_asked(plan, writers if is_end else writers + [index])
    found = sources_unlike(plan, guard, plain, staged, atoms)
    if found is None:
        return None
    fixed, source, other = found
    return ("source", way_told(plan, fixed, atoms), index, box, source, other)


def by_stage(stages, indexes):
    """These units by their stages, those of one stage as they stand."""
    pairs = [(stages[index], index) for index in indexes]
    return [index for _, index in sorted(pairs)]


def sources_unlike(plan, fixed, plain, staged, atoms):
    """The least way with these worths in which the last active ones of two rows are unlike, and both; None for none."""
    plain, staged = may_be_last(plan, fixed, plain), may_be_last(plan, fixed, staged)
    if plain == staged:
        return None
    if is_known_last(plan, fixed, plain) and is_known_last(plan, fixed, staged):
        return fixed, first_or_none(plain), first_or_none(staged)
    free = [at for at, atom in enumerate(atoms) if atom not in fixed]
    atom, behind = atoms[free[0]], atoms[free[0] + 1:]
    asked = any([atom in plan.guards[other] for other in plain + staged])
    for worth in plan.worths[atom] if asked else plan.worths[atom][:1]:
        found = sources_unlike(plan, with_worth(fixed, atom, worth), plain[::-1], staged[::-1], behind)
        if found is not None:
            return found
    return None


def may_be_last(plan, fixed, row):
    """Those of a row that may be its last active one, the last one first."""
    found = []
    for other in reversed(row):
        if not is_missed(fixed, plan.guards[other]):
            found.append(other)
            if is_met(fixed, plan.guards[other]):
                break
    return found


def is_known_last(plan, fixed, found):
    """Whether it is known which one of those found is the last active one, or that none is."""
    return not found or is_met(fixed, plan.guards[found[0]])


def first_or_none(found):
    """The first one of those found."""
    return found[0] if found else None


def order_in(plan, stages):
    """The first two touches of one register whose stages do not ascend in some way."""
    for touches in plan.touches:
        for at, one in enumerate(touches):
            for other in touches[at + 1:]:
                both = joined(plan.guards[one], plan.guards[other])
                if stages[other] <= stages[one] and both is not None:
                    return ("order", way_told(plan, both, atoms_asked(plan, touches)), one, other)
    return None


def gap_in(plan, gap, stages):
    """The touches of the first register that stand too far from one another."""
    for touches in plan.touches:
        row = [stages[index] for index in touches]
        if row and max(row) - min(row) >= gap:
            return ("gap", touches[row.index(min(row))], touches[row.index(max(row))])
    return None
