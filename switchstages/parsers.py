"""Frames: how packets are parsed, which way they take, and what is sent of them."""

from switchstages.errors import InvalidFields, InvalidFrame, InvalidRest
from switchstages.headers import are_headers, bytes_from, check_packet, header_size, is_rest, words_from
from switchstages.states import LOCAL_IN, aim_by, is_parser, place_of
from switchstages.words import are_words_for, is_row, names_in


def is_frame(value):
    """Whether value is headers, a parser for them and an order of them, whatever it is."""
    if not is_row(value, 3, 3) or not are_headers(value[0]):
        return False
    headers, parser, order = value
    return is_parser(headers, parser) and is_order(headers, order)


def is_order(headers, value):
    """Whether in value the name of each header stands once."""
    if not is_row(value, len(headers), len(headers)) or not all([isinstance(name, str) for name in value]):
        return False
    return sorted(value) == sorted(names_in(headers))


def are_fields(headers, value):
    """Whether value is, for each header, None or the words of its fields."""
    if not is_row(value, len(headers), len(headers)):
        return False
    return all([words is None or are_words_for(header[1], words) for header, words in zip(headers, value)])


def way_of(frame, packet):
    """The names of the states to which a packet comes, and accept or refuse behind them."""
    check_frame(frame)
    check_packet(packet)
    return walk(frame, packet)[0]


def parse(frame, packet):
    """The fields and the rest of a packet; None if it is refused."""
    check_frame(frame)
    check_packet(packet)
    return parsed(frame, packet)


def send(frame, fields, rest):
    """The bytes of these fields and this rest."""
    check_frame(frame)
    if not are_fields(frame[0], fields):
        raise InvalidFields(fields)
    if not is_rest(rest):
        raise InvalidRest(rest)
    return sent(frame, fields, rest)


def comes_back(frame, packet):
    """Whether a packet is accepted, and what is sent of it has its bytes."""
    check_frame(frame)
    check_packet(packet)
    told = parsed(frame, packet)
    if told is None:
        return False
    fields, rest = told
    return sent(frame, fields, rest) == packet[1]


def check_frame(frame):
    """Raise the error of what is no frame."""
    if not is_frame(frame):
        raise InvalidFrame(frame)


def parsed(frame, packet):
    """What parse tells, frame and packet being right."""
    way, held, left = walk(frame, packet)
    if way[-1] == "refuse":
        return None
    return tuple([held.get(name) for name in names_in(frame[0])]), left


def walk(frame, packet):
    """The way of a packet, the words of each header that is held in the end, by its name, and the bytes left."""
    headers, parser, _ = frame
    named = {header[0]: header for header in headers}
    states = {state[0]: state for state in parser}
    held = {}
    left = packet[1]
    way = [parser[0][0]]
    while way[-1] in states:
        _, name, onward = states[way[-1]]
        if name is not None:
            size = header_size(named[name])
            if size > len(left):
                way.append("refuse")
                break
            held[name] = words_from(named[name], left[:size])
            left = left[size:]
        way.append(aim_by(onward, word_asked(named, held, packet[0], place_of(onward))))
    return tuple(way), held, left


def word_asked(named, held, came_in, place):
    """The word of a place while a packet that came in there is parsed; 0 where no place is asked."""
    if place == LOCAL_IN:
        return came_in
    # What is not held is 0, even if a later state is going to read it.
    if place is None or place[1] not in held:
        return 0
    _, header, field = place
    return held[header][names_in(named[header][1]).index(field)]


def sent(frame, fields, rest):
    """What send tells, all of its parameters being right."""
    headers, _, order = frame
    at = names_in(headers)
    found = ()
    for name in order:
        index = at.index(name)
        if fields[index] is not None:
            found = found + bytes_from(headers[index], fields[index])
    return found + rest
