"""Ways through a parser: which ones packets take, a packet of each, and which packets do not come back."""

from switchstages.cases import word_to
from switchstages.errors import InvalidNumber, InvalidWay, InvalidWord
from switchstages.headers import bytes_from
from switchstages.parsers import check_frame
from switchstages.states import LOCAL_IN, MOST_STATES, aim_by, aims_of, place_of, width_of
from switchstages.words import WORD_WIDTH, is_number, is_row, is_word, names_in


def ways(frame):
    """All ways ending with accept that some packet takes, ascending by the indexes of their states."""
    check_frame(frame)
    return ways_taken(frame)


def packet_on(frame, way):
    """A packet that takes this way."""
    check_frame(frame)
    if not is_way_of(frame, way):
        raise InvalidWay(way)
    return packet_with(frame, way, {})


def dead_states(frame):
    """The names of the states to which no packet comes, in their order."""
    check_frame(frame)
    met = [name for row in rows_taken(frame) for name in row]
    return tuple([name for name in names_in(frame[1]) if name not in met])


def lost(frame):
    """An accepted packet that does not come back; None if all of them do."""
    check_frame(frame)
    return lost_among(frame)


def does_lead(frame, state, word):
    """The aim to which the state with this index leads where its place has this word."""
    check_frame(frame)
    headers, parser, _ = frame
    if not is_number(state, 0, len(parser) - 1):
        raise InvalidNumber(state)
    onward = parser[state][2]
    place = place_of(onward)
    if not is_word(word, WORD_WIDTH if place is None else width_of(headers, place)):
        raise InvalidWord(word)
    return aim_by(onward, word)


def is_way_of(frame, value):
    """Whether value is a way ending with accept that some packet takes."""
    # A value may be anything, so it is compared with ways only if it is a row of texts.
    if not is_row(value, 2, MOST_STATES + 1) or not all([isinstance(name, str) for name in value]):
        return False
    return value in ways_taken(frame)


def ways_taken(frame):
    """What ways tells, frame being one."""
    at = names_in(frame[1])
    accepted = [row for row in rows_taken(frame) if row[-1] == "accept"]
    return tuple(sorted(accepted, key=lambda row: [at.index(name) for name in row[:-1]]))


def rows_taken(frame):
    """All rows of names along which some packet comes, from the first state on; accept or refuse may stand last."""
    states = {state[0]: state for state in frame[1]}
    found = []
    begun = [(frame[1][0][0],)]
    while begun:
        row = begun.pop()
        found.append(row)
        if row[-1] in states:
            begun.extend([row + (aim,) for aim in aims_taken(states, row)])
    return found


def aims_taken(states, row):
    """To which aims packets that come along a row of states go on."""
    onward = states[row[-1]][2]
    if not is_asked_freely(states, row):
        return [aim_by(onward, 0)]
    return [aim for aim in sorted(set(aims_of(onward))) if word_to(onward, aim, 0, 0) is not None]


def is_asked_freely(states, row):
    """Whether the last state of a row asks what packets may have as they like; what is not held then is 0."""
    place = place_of(states[row[-1]][2])
    if place is None or place == LOCAL_IN:
        return place == LOCAL_IN
    return place[1] in [states[name][1] for name in row]


def packet_with(frame, way, wanted):
    """A packet of a way that has the bits wanted: for some places a mask and the bits there; None for none."""
    states = {state[0]: state for state in frame[1]}
    words = {place: bits for place, (_, bits) in wanted.items()}
    for at, aim in enumerate(way[1:]):
        if is_asked_freely(states, way[:at + 1]):
            onward = states[way[at]][2]
            mask, bits = wanted.get(onward[1], (0, 0))
            word = word_to(onward, aim, mask, bits)
            if word is None:
                return None
            words[onward[1]] = word
    taken = ()
    for name, fields in headers_read(frame, way):
        taken = taken + bytes_from((name, fields), [words.get(("field", name, field), 0) for field, _ in fields])
    return words.get(LOCAL_IN, 0), taken


def lost_among(frame):
    """What lost tells, frame being one."""
    for way in ways_taken(frame):
        packet = packet_lost(frame, way)
        if packet is not None:
            return packet
    return None


def packet_to(frame, name):
    """A packet that comes to the state of this name; None if none does."""
    for row in rows_taken(frame):
        if row[-1] == name:
            return packet_with(frame, row, {})
    return None


def packet_lost(frame, way):
    """A packet of a way that does not come back; None if all of them do."""
    read = headers_read(frame, way)
    turned = [header for name in frame[2] for header in read if header[0] == name]
    for came, left in zip(bits_in(read), bits_in(turned)):
        if came != left:
            packet = packet_unlike(frame, way, came, left)
            if packet is not None:
                return packet
    return None


def packet_unlike(frame, way, one, other):
    """A packet of a way in which these two bits of fields are unlike; None for none."""
    for one_set, other_set in ((True, False), (False, True)):
        wanted = {}
        for (place, bit), is_set in ((one, one_set), (other, other_set)):
            # Both may be bits of one field.
            mask, bits = wanted.get(place, (0, 0))
            wanted[place] = (mask | bit, bits | bit if is_set else bits)
        packet = packet_with(frame, way, wanted)
        if packet is not None:
            return packet
    return None


def headers_read(frame, way):
    """The headers that are read on a way, in the order in which they are."""
    headers, parser, _ = frame
    named = {header[0]: header for header in headers}
    read = {state[0]: state[1] for state in parser}
    return [named[read[name]] for name in way[:-1] if read[name] is not None]


def bits_in(headers):
    """All bits of headers as they are written: the place of the field, and what the bit is worth in it."""
    return [
        (("field", name, field), 1 << behind)
        for name, fields in headers for field, width in fields for behind in reversed(range(width))
    ]
