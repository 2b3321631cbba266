"""Claims with papers that the checker accepts: of two claims that exclude one another the one that is so."""

from switchstages.arrivals import MOST_ARRIVALS, is_sent_alike, wrong_arrival
from switchstages.boxes import box_widths, is_filling
from switchstages.chainclaims import MOST_STAGE
from switchstages.chains import chain_beyond, chain_to
from switchstages.contents import are_cells, are_contents
from switchstages.errors import (
    InvalidCells, InvalidContents, InvalidFilling, InvalidKeys, InvalidLayout, InvalidNumber,
    InvalidPackets, InvalidWay, InvalidWriting, NotShown, TooMany,
)
from switchstages.fitting import fitted_stages, too_much_for
from switchstages.flowing import Flow, flow_told
from switchstages.flows import check_flow
from switchstages.frameclaims import is_way_told
from switchstages.headers import check_packet
from switchstages.laidclaims import is_unlike_done
from switchstages.layouts import check_layout, check_wanted, check_ways, early_of, is_layout_of
from switchstages.making import made_of
from switchstages.papers import pieces_alike, pieces_idle
from switchstages.parsers import check_frame, parsed
from switchstages.plans import Plan
from switchstages.programs import check_begun, check_packets, check_program, worked_in_row
from switchstages.ranges import check_range, prefixes_in
from switchstages.tableclaims import MOST_MANY, are_same_widths
from switchstages.tables import check_entries, check_keys, is_keys
from switchstages.texts import check_writing, read_program
from switchstages.units import check_made, check_small, check_unit
from switchstages.ways import lost_among, packet_to, packet_with, ways_taken
from switchstages.wishes import wish_broken
from switchstages.words import is_number, is_row, names_in


def certify_parse(frame, packet):
    """What comes of a packet: parsed or refused."""
    check_frame(frame)
    check_packet(packet)
    told = parsed(frame, packet)
    if told is None:
        return ("refused", frame, packet), ()
    return ("parsed", frame, packet) + told, ()


def certify_back(frame):
    """Whether all accepted packets come back: comes back or lost."""
    check_frame(frame)
    packet = lost_among(frame)
    if packet is None:
        return ("comes back", frame), ()
    return ("lost", frame), packet


def certify_way(frame, way):
    """Whether some packet takes a way: taken or not taken."""
    check_frame(frame)
    if not is_way_told(way):
        raise InvalidWay(way)
    if way in ways_taken(frame):
        return ("taken", frame, way), packet_with(frame, way, {})
    return ("not taken", frame, way), ()


def certify_state(frame, state):
    """Whether some packet comes to the state with this index: come to or dead."""
    check_frame(frame)
    if not is_number(state, 0, len(frame[1]) - 1):
        raise InvalidNumber(state)
    packet = packet_to(frame, names_in(frame[1])[state])
    if packet is None:
        return ("dead", frame, state), ()
    return ("come to", frame, state), packet


def certify_read(writing):
    """What comes of a writing: read or not read."""
    check_writing(writing)
    try:
        program = read_program(writing)
    except InvalidWriting as refused:
        return ("not read", writing, refused.place), ()
    return ("read", writing, program), ()


def certify_worked(program, contents, cells, packets):
    """What comes of packets that are worked in a row: worked."""
    check_begun(program, contents, cells)
    check_packets(packets)
    outcomes, left = worked_in_row(program, contents, cells, packets)
    return ("worked", program, contents, cells, packets, outcomes, left), ()


def certify_tables(keys, entries, other_keys, others):
    """Whether both tell the same for all words: tell alike or part first."""
    check_keys(keys)
    check_entries(keys, entries)
    if not is_keys(other_keys) or not are_same_widths(keys, other_keys):
        raise InvalidKeys(other_keys)
    check_entries(other_keys, others)
    row, words = pieces_alike(keys, entries, other_keys, others)
    if words is None:
        return ("tell alike", keys, entries, other_keys, others), row
    return ("part first", keys, entries, other_keys, others, words), row


def certify_entry(keys, entries, index):
    """Whether an entry is looked up by no words: idle or looked up."""
    check_keys(keys)
    check_entries(keys, entries)
    if not is_number(index, 0, len(entries) - 1):
        raise InvalidNumber(index)
    row, words = pieces_idle(keys, entries, index)
    if words is None:
        return ("idle", keys, entries, index), row
    return ("looked up", keys, entries, index), words


def certify_prefixes(width, low, high, many):
    """Whether so many prefixes hold together just the words of a range: held by or not held by."""
    check_range(width, low, high)
    if not is_number(many, 0, MOST_MANY):
        raise InvalidNumber(many)
    found = prefixes_in(width, low, high)
    if len(found) <= many:
        return ("held by", width, low, high, many), found
    return ("not held by", width, low, high, many), tuple([word for word, _ in found])


def certify_done(program, made, contents, cells, filling):
    """Whether units leave what control leaves: done alike or done otherwise."""
    check_made(program, made)
    if not are_contents(program, contents):
        raise InvalidContents(contents)
    if not are_cells(program, cells):
        raise InvalidCells(cells)
    if not is_filling(box_widths(program[0], program[1]), filling):
        raise InvalidFilling(filling)
    if made == made_of(program):
        return ("done alike", program, made), ("units",)
    if is_unlike_done(program, made, (contents, cells, filling)):
        return ("done otherwise", program, made), (contents, cells, filling)
    raise NotShown()


def certify_layout(program, made, layout):
    """Whether a layout is right: right or not right."""
    check_layout(program, made, layout)
    plan = Plan(program, made)
    check_ways(plan)
    broken = wish_broken(plan, layout[0], layout[1])
    if broken is None:
        return ("right", program, made, layout), ()
    return ("not right", program, made, layout), broken


def certify_sent(program, layout, contents, cells, arrivals):
    """Whether a chip sends what the program sends: sent alike or sent otherwise."""
    check_program(program)
    made = made_of(program)
    check_small(made)
    if not is_layout_of(made, layout):
        raise InvalidLayout(layout)
    if not are_contents(program, contents):
        raise InvalidContents(contents)
    if not are_cells(program, cells):
        raise InvalidCells(cells)
    check_arrivals(layout[0], arrivals)
    plan = Plan(program, made)
    check_ways(plan)
    if wish_broken(plan, layout[0], layout[1]) is None:
        return ("sent alike", program, layout), ("right",)
    if is_sent_alike(program, made, layout, (contents, cells, arrivals)):
        raise NotShown()
    return ("sent otherwise", program, layout), (contents, cells, arrivals)


def check_arrivals(gap, arrivals):
    """Raise the error of what is no arrivals a gap from one another."""
    if not is_row(arrivals, 0, MOST_ARRIVALS):
        raise InvalidPackets(None)
    index = wrong_arrival(gap, arrivals)
    if index is not None:
        raise InvalidPackets(index)


def certify_flow(program, contents, made, layout, cells, coming):
    """What the flow comes to: flows or clashes."""
    check_flow(program, contents, made, layout, cells, coming)
    found = flow_told(Flow(program, contents, made, layout[1], cells, coming))
    kind = "flows" if found[0] == "through" else "clashes"
    return (kind, program, contents, made, layout, cells, coming) + found[1:], ()


def certify_before(program, made, unit, stage):
    """Whether a unit stands in a stage below this one in some right layout: not before or before."""
    check_unit(program, made, unit)
    if not is_number(stage, 0, MOST_STAGE):
        raise InvalidNumber(stage)
    plan = Plan(program, made)
    check_ways(plan)
    chain = chain_to(plan, unit)
    if len(chain) > stage:
        return ("not before", program, made, unit, stage), chain
    laid = early_or_none(program, made)
    if laid is None or laid[1][unit] >= stage:
        raise NotShown()
    return ("before", program, made, unit, stage), laid


def early_or_none(program, made):
    """The early layout; None if there is none."""
    try:
        return early_of(program, made)
    except TooMany:
        return None


def certify_laid(program, made, gap, chip, most):
    """Whether some layout with this gap fits a chip: not laid or laid."""
    check_wanted(program, made, gap, chip, most)
    plan = Plan(program, made)
    check_ways(plan)
    wanted = too_much_for(program, plan, chip)
    paper = (wanted[0],) if wanted else chain_beyond(plan, gap, chip[0])
    if paper is not None:
        return ("not laid", program, made, gap, chip), paper
    stages = fitted_stages(program, plan, made, (gap, chip), most)
    if stages is None:
        raise NotShown()
    return ("laid", program, made, gap, chip), (gap, tuple(stages))
