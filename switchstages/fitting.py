"""Layouts on a chip: what each stage has to hold, whether it can, and layouts tried until one fits."""

from switchstages.leanings import early_stages, least_stage, rules_of
from switchstages.wishes import wish_broken

MOST_STAGES = 64


def spans_of_boxes(plan, stages, first):
    """Of each made box that lives at all: the first and the last stage at whose beginning it does."""
    spans = {}
    for box in range(first, len(plan.writers)):
        askers = [index for index, guard in enumerate(plan.guards) if box in guard]
        written = [stages[index] for index in plan.writers[box]]
        asked = [stages[index] for index in plan.readers[box] + askers]
        if written and asked and min(written) < max(asked):
            spans[box] = (min(written) + 1, max(asked))
    return spans


def living_at(spans, stage):
    """The boxes that live at the beginning of a stage, ascending."""
    return [box for box, (begin, last) in spans.items() if begin <= stage <= last]


def looked_up(program, plan):
    """Of each look, by its index, the room of its table."""
    return {index: program[6][unit[1]][4] for index, unit in enumerate(plan.units) if unit[0] == "look"}


def over_in(program, plan, made, stages, chip):
    """The first thing of which a stage wants more than the chip has; None if there is none."""
    many, most_units, most_looks, most_room, most_bits = chip
    rooms = looked_up(program, plan)
    spans = spans_of_boxes(plan, stages, first_made(program))
    beyond = [stage for stage in stages if stage >= many]
    if beyond:
        return ("stages", min(beyond))
    used = sorted(set(stages))
    for stage in used:
        if stages.count(stage) > most_units:
            return ("units", stage)
    for stage in used:
        if len(rooms_at(rooms, stages, stage)) > most_looks:
            return ("looks", stage)
    for stage in used:
        if sum(rooms_at(rooms, stages, stage)) > most_room:
            return ("room", stage)
    for stage in range(many):
        if sum([made[0][box] for box in living_at(spans, stage)]) > most_bits:
            return ("bits", stage)
    return None


def too_much_for(program, plan, chip):
    """Of what the units want more than all stages of a chip have together: units, looks, room."""
    many, most_units, most_looks, most_room, _ = chip
    rooms = looked_up(program, plan)
    wanted = (("units", len(plan.units), most_units), ("looks", len(rooms), most_looks),
        ("room", sum(rooms.values()), most_room))
    return [kind for kind, want, have in wanted if want > many * have]


def first_made(program):
    """The index of the first made box: how many boxes the program has."""
    return 3 + len(program[1]) + sum([1 + len(fields) for _, fields in program[0]])


def rooms_at(rooms, stages, stage):
    """The room of each look in a stage."""
    return [room for index, room in rooms.items() if stages[index] == stage]


def fitted_stages(program, plan, made, wanted, most):
    """The stages of a layout that fits, wanted being its gap and the chip; None if none of so many tries does."""
    gap, chip = wanted
    floors = [0] * len(plan.units)
    rules = rules_of(plan)
    for at in range(most):
        # The early layout is tried first, then ones that keep to what the chip's stages may have.
        stages = early_stages(rules) if at == 0 else stages_above(looked_up(program, plan), chip, rules, floors)
        if stages is None:
            return None
        if max(stages + [0]) < MOST_STAGES and wish_broken(plan, gap, stages) is None:
            if over_in(program, plan, made, stages, chip) is None:
                return stages
        if at > 0:
            raised = floors_raised(program, plan, made, (gap, chip), stages, floors)
            if raised == floors:
                return None
            floors = raised
    return None


def stages_above(rooms, chip, rules, floors):
    """The least stages from the floors on by the rules, no stage having too much; None if the chip is too short."""
    many, most_units, most_looks, most_room, _ = chip
    left = [[most_units, most_looks, most_room] for _ in range(many)]
    stages = []
    for index, rule in enumerate(rules):
        wants = [1, 1, rooms[index]] if index in rooms else [1, 0, 0]
        stage = max(least_stage(rule, stages), floors[index])
        while stage < many and any([have < want for have, want in zip(left[stage], wants)]):
            stage = stage + 1
        if stage >= many:
            return None
        left[stage] = [have - want for have, want in zip(left[stage], wants)]
        stages.append(stage)
    return stages


def floors_raised(program, plan, made, wanted, stages, floors):
    """Floors for the next try: touches nearer to the last one, or later writers of what lives in a full stage."""
    gap, chip = wanted
    raised = list(floors)
    for touches in plan.touches:
        for index in touches:
            raised[index] = max(raised[index], max([stages[other] for other in touches]) - gap + 1)
    found = over_in(program, plan, made, stages, chip)
    if raised != floors or found is None or found[0] != "bits":
        return raised
    full = found[1]
    spans = spans_of_boxes(plan, stages, first_made(program))
    for index in [writer for box in living_at(spans, full) for writer in plan.writers[box]]:
        # What nobody needs ahead of the full stage can as well be written in it.
        if stages[index] < full and min([stages[other] for other in users_of(plan, index)] + [MOST_STAGES]) > full:
            raised[index] = full
            break
    return raised


def users_of(plan, index):
    """The units behind that read, or ask, what the unit with this index writes."""
    boxes = plan.writes[index]
    return [
        other for other, guard in enumerate(plan.guards)
        if other > index and any([box in guard or box in plan.reads[other] for box in boxes])
    ]
