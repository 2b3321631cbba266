"""Claims of frames: which papers show them."""

from switchstages.headers import is_packet
from switchstages.parsers import is_frame, parsed, sent, walk
from switchstages.ways import lost_among, packet_to, ways_taken
from switchstages.words import is_nothing, is_number, is_row, is_same, names_in

FRAME_CLAIMS = ("parsed", "refused", "comes back", "lost", "taken", "not taken", "come to", "dead")


def is_way_told(value):
    """Whether value is 2 to 9 texts, the last one accept."""
    if not is_row(value, 2, 9) or not all([isinstance(name, str) for name in value]):
        return False
    return value[-1] == "accept"


def shows_of_frame(kind, parts, paper):
    """Whether a paper shows the claim of this kind, one of a frame, with these parts."""
    if not parts or not is_frame(parts[0]):
        return False
    frame = parts[0]
    if kind == "parsed" or kind == "refused":
        return is_nothing(paper) and is_parsed_so(kind, parts)
    if kind == "comes back":
        return len(parts) == 1 and is_nothing(paper) and lost_among(frame) is None
    if kind == "lost":
        return len(parts) == 1 and is_packet(paper) and is_spoilt(frame, paper)
    if len(parts) != 2:
        return False
    if kind == "taken" or kind == "not taken":
        return is_way_told(parts[1]) and is_taken_so(kind, frame, parts[1], paper)
    return is_number(parts[1], 0, len(frame[1]) - 1) and is_come_to_so(kind, frame, parts[1], paper)


def is_parsed_so(kind, parts):
    """Whether parsed or refused is a claim with these parts, and so."""
    if len(parts) < 2 or not is_packet(parts[1]):
        return False
    told = parsed(parts[0], parts[1])
    if kind == "refused":
        return len(parts) == 2 and told is None
    # What is the same as fields and a rest that were told is some, too.
    return len(parts) == 4 and is_same(parts[2:], told)


def is_spoilt(frame, packet):
    """Whether a packet is accepted and does not come back."""
    told = parsed(frame, packet)
    return told is not None and sent(frame, told[0], told[1]) != packet[1]


def is_taken_so(kind, frame, way, paper):
    """Whether the paper shows that a way is taken, or is not taken."""
    if kind == "taken":
        return is_packet(paper) and walk(frame, paper)[0] == way
    return is_nothing(paper) and way not in ways_taken(frame)


def is_come_to_so(kind, frame, state, paper):
    """Whether the paper shows that packets come, or do not come, to the state with this index."""
    name = names_in(frame[1])[state]
    if kind == "come to":
        return is_packet(paper) and name in walk(frame, paper)[0][:-1]
    return is_nothing(paper) and packet_to(frame, name) is None
