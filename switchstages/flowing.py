"""The flow of packets through the stages, beat by beat, and what comes out of it."""

from switchstages.deeds import Deeds, begun_boxes, cells_now, effect_of, is_active, write_boxes, write_cell
from switchstages.parsers import parsed, sent
from switchstages.programs import fields_of, filling_of


class Flow:
    """The chip at a beat: what each packet that comes has in its boxes, and the cells."""

    def __init__(self, program, contents, made, stages, cells, coming):
        self.deeds = Deeds(program, contents, made[0], cells)
        self.beats = [beat for beat, _ in coming]
        self.boxes = [begun_boxes(self.deeds, filling) for _, filling in coming]
        # Stages in which no unit stands are left out.
        self.units = {}
        for unit, stage in zip(made[1], stages):
            self.units[stage] = self.units.get(stage, []) + [unit]


def clash_ahead(flow, end):
    """Do all beats below end; None, or the beat at which something clashes and what it is, if the flow stops there."""
    for beat in sorted(set([entry + stage for entry in flow.beats for stage in flow.units])):
        if beat >= end:
            return None
        thing = clash_at(flow, beat)
        if thing is not None:
            return beat, thing
    return None


def clash_at(flow, beat):
    """Do what is done at a beat; what clashes, if something does, and then nothing is written."""
    effects = []
    for comer, (entry, boxes) in enumerate(zip(flow.beats, flow.boxes)):
        for unit in flow.units.get(beat - entry, []):
            if is_active(unit, boxes):
                effects.append((comer, effect_of(flow.deeds, boxes, unit)))
    boxes_met = sorted([(comer, box) for comer, (written, _) in effects for box, _ in written])
    cells_met = sorted([cell[0] for _, (_, cell) in effects if cell is not None])
    for one, other in zip(boxes_met, boxes_met[1:]):
        if one == other:
            return ("box",) + one
    for one, other in zip(cells_met, cells_met[1:]):
        if one == other:
            return ("register", one)
    for comer, (written, cell) in effects:
        write_boxes(flow.deeds, flow.boxes[comer], written)
        write_cell(flow.deeds, cell)
    return None


def last_stage(flow):
    """The last stage in which a unit stands; -1 if there are no units."""
    return max(list(flow.units) + [-1])


def flow_told(flow):
    """What the flow comes to: through, with all boxes and the cells, or the first clash."""
    ends = [entry + last_stage(flow) + 1 for entry in flow.beats]
    clash = clash_ahead(flow, max(ends + [0]))
    if clash is not None:
        return ("clash",) + clash
    return ("through", tuple([tuple(boxes) for boxes in flow.boxes]), cells_now(flow.deeds))


def sent_by_chip(program, contents, made, stages, cells, arrivals):
    """What a chip sends of the pairs of a beat and a packet that arrive: a clash, or sent, the outcomes, the cells."""
    frame = (program[0], program[2], program[3])
    told = [parsed(frame, packet) for _, packet in arrivals]
    # Those that are refused do not enter.
    entering = [index for index, fields in enumerate(told) if fields is not None]
    coming = [
        (arrivals[index][0], filling_of(program, arrivals[index][1][0], told[index][0])) for index in entering
    ]
    found = flow_told(Flow(program, contents, made, stages, cells, coming))
    if found[0] == "clash":
        return found
    ended = {index: boxes for index, boxes in zip(entering, found[1])}
    outcomes = [
        outcome_by(program, ended[index], fields[1]) if fields is not None else "refused"
        for index, fields in enumerate(told)
    ]
    return ("sent", tuple(outcomes), found[2])


def outcome_by(program, boxes, rest):
    """The outcome that boxes tell in the end, rest being what was not parsed."""
    if boxes[2] == 1:
        return "gone"
    return boxes[1], sent((program[0], program[2], program[3]), fields_of(program, boxes), rest)
