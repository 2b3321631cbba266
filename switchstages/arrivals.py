"""Packets that arrive at a chip at their beats, and whether the chip sends of them what the program sends."""

from switchstages.flowing import sent_by_chip
from switchstages.flows import MOST_BEAT
from switchstages.headers import is_packet
from switchstages.programs import worked_in_row
from switchstages.words import is_number, is_row

MOST_ARRIVALS = 20


def are_arrivals(gap, value):
    """Whether value is what arrives: pairs of a beat and a packet, the beats a gap or more from one another."""
    return is_row(value, 0, MOST_ARRIVALS) and wrong_arrival(gap, value) is None


def wrong_arrival(gap, arrivals):
    """The index of the first element that is no pair of a beat a gap or more above the one ahead, and a packet."""
    least = 0
    for index, pair in enumerate(arrivals):
        if not is_row(pair, 2, 2) or not is_number(pair[0], least, MOST_BEAT) or not is_packet(pair[1]):
            return index
        least = pair[0] + gap
    return None


def is_sent_alike(program, made, layout, begun):
    """Whether from these contents, cells and arrivals on a chip sends what the program sends, and keeps its cells."""
    contents, cells, arrivals = begun
    plainly = worked_in_row(program, contents, cells, tuple([packet for _, packet in arrivals]))
    return sent_by_chip(program, contents, made, layout[1], cells, arrivals) == ("sent",) + plainly
