"""Headers and packets: what they are, and how a header's bytes are read and written."""

from switchstages.errors import InvalidFields, InvalidHeaders, InvalidNumber, InvalidPacket, InvalidRest
from switchstages.words import (
    are_bytes, are_sized, are_unlike, are_words_for, is_byte, is_name, is_number, is_row, names_in,
)

MOST_HEADERS = 6
MOST_FIELDS = 12
MOST_HEADER_BITS = 128
MOST_BYTES = 128


def are_headers(value):
    """Whether value is headers, whatever it is."""
    if not is_row(value, 0, MOST_HEADERS):
        return False
    return all([is_header(part) for part in value]) and are_unlike(names_in(value))


def is_header(value):
    """Whether value is the name of a header and its fields."""
    return is_row(value, 2, 2) and is_name(value[0]) and are_header_fields(value[1])


def are_header_fields(value):
    """Whether value is the fields of one header: named, and of whole bytes together."""
    if not are_sized(value, 1, MOST_FIELDS):
        return False
    bits = sum([width for _, width in value])
    return bits % 8 == 0 and bits <= MOST_HEADER_BITS


def is_packet(value):
    """Whether value is a packet, whatever it is."""
    return is_row(value, 2, 2) and is_byte(value[0]) and is_rest(value[1])


def is_rest(value):
    """Whether value is a row of as many bytes as a packet may have."""
    return are_bytes(value, 0, MOST_BYTES)


def size_of(headers, index):
    """How many bytes the header with this index has."""
    check_index(headers, index)
    return header_size(headers[index])


def read_header(headers, index, taken):
    """The words of the fields of the header with this index, read off the bytes taken."""
    check_index(headers, index)
    size = header_size(headers[index])
    if not are_bytes(taken, size, size):
        raise InvalidRest(taken)
    return words_from(headers[index], taken)


def write_header(headers, index, words):
    """The bytes of the header with this index, its fields having these words."""
    check_index(headers, index)
    if not are_words_for(headers[index][1], words):
        raise InvalidFields(words)
    return bytes_from(headers[index], words)


def check_index(headers, index):
    """Raise the error of the first of both that is wrong."""
    if not are_headers(headers):
        raise InvalidHeaders(headers)
    if not is_number(index, 0, len(headers) - 1):
        raise InvalidNumber(index)


def check_packet(packet):
    """Raise the error of what is no packet."""
    if not is_packet(packet):
        raise InvalidPacket(packet)


def header_size(header):
    """How many bytes a header has."""
    return sum([width for _, width in header[1]]) // 8


def words_from(header, taken):
    """The words of a header's fields in these bytes, of which there are as many as its size."""
    bits = 0
    for byte in taken:
        bits = (bits << 8) | byte
    behind = 8 * len(taken)
    words = []
    for _, width in header[1]:
        behind = behind - width
        words.append((bits >> behind) & ((1 << width) - 1))
    return tuple(words)


def bytes_from(header, words):
    """The bytes of a header whose fields have these words."""
    bits = 0
    for (_, width), word in zip(header[1], words):
        bits = (bits << width) | word
    size = header_size(header)
    return tuple([(bits >> (8 * behind)) & 255 for behind in reversed(range(size))])
