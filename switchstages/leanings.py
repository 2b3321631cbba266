"""On which units a unit leans, and behind which ones it is put."""

from switchstages.plans import are_active_together, joined, missing_all


def leaned_on(plan, index):
    """The units on which the unit with this index leans, ascending."""
    found = [plan.makers[atom] for atom in plan.guards[index]]
    for box in plan.reads[index]:
        found.extend([
            other for other in plan.writers[box] if worths_of_source(plan, index, box, other) is not None
        ])
    for touches in plan.touches:
        if index in touches:
            found.extend([other for other in ahead_of(index, touches) if are_active_together(plan, index, other)])
    return sorted(set(found))


def ahead_of(index, others):
    """Those of other units that stand further ahead."""
    return [other for other in others if other < index]


def worths_of_source(plan, index, box, other):
    """Worths by which both units are active and the other one is the source of a box for this one; None for none."""
    if other >= index:
        return None
    both = joined(plan.guards[index], plan.guards[other])
    if both is None:
        return None
    between = [plan.guards[writer] for writer in plan.writers[box] if other < writer < index]
    return missing_all(plan, both, between)


def writers_ahead(plan, index):
    """The units further ahead that write a box that this one writes, and are active with it in some way."""
    others = [other for box in plan.writes[index] for other in ahead_of(index, plan.writers[box])]
    return [other for other in others if are_active_together(plan, index, other)]


def readers_ahead(plan, index):
    """The units further ahead that read what this one writes, and are active with it in some way."""
    others = [other for box in plan.writes[index] for other in ahead_of(index, plan.readers[box])]
    return [other for other in others if are_active_together(plan, index, other)]


def rules_of(plan):
    """For each unit those behind which it is put, and those behind or at which it is put."""
    return [
        (leaned_on(plan, index) + writers_ahead(plan, index), readers_ahead(plan, index))
        for index in range(len(plan.units))
    ]


def least_stage(rule, stages):
    """The least stage in which a unit may be put by its rule; stages are those of the units ahead."""
    behind, at = rule
    return max([stages[other] + 1 for other in behind] + [stages[other] for other in at] + [0])


def early_stages(rules):
    """The stages of the early layout by the rules of all units, however many they are."""
    stages = []
    for rule in rules:
        stages.append(least_stage(rule, stages))
    return stages


def least_gap(plan, stages):
    """1 more than the greatest distance of two touches of one register."""
    spans = [[stages[index] for index in touches] for touches in plan.touches if touches]
    return max([max(span) - min(span) + 1 for span in spans] + [1])
