"""Pieces: all words whose first bits make some number; which wholes hold all of a piece's words, or none."""

# A piece is a pair (BITS, HEAD). Wholes are those of the covers; a side is a row of pairs of a whole and what it tells.

from switchstages.covers import whole_of

WHOLE_PIECE = (0, 0)


def bits_in_keys(pairs):
    """How many bits keys have together."""
    return sum([width for _, width in pairs])


def spans_on(pairs, piece):
    """The least and the greatest word that a piece leaves to each key; the bits unlike in both are free."""
    bits, head = piece
    behind = bits_in_keys(pairs)
    low = head << (behind - bits)
    high = low | ((1 << (behind - bits)) - 1)
    spans = []
    for _, width in pairs:
        behind = behind - width
        most = (1 << width) - 1
        spans.append(((low >> behind) & most, (high >> behind) & most))
    return spans


def first_words(pairs, piece):
    """The least words of a piece."""
    return tuple([low for low, _ in spans_on(pairs, piece)])


def whole_on(pairs, piece):
    """The whole of all words of a piece."""
    return tuple([
        (low, high) if kind == "range" else (low, ((1 << width) - 1) ^ low ^ high)
        for (kind, width), (low, high) in zip(pairs, spans_on(pairs, piece))
    ])


def halves_of(piece):
    """The two pieces of one bit more."""
    bits, head = piece
    return (bits + 1, 2 * head), (bits + 1, 2 * head + 1)


def number_behind(pairs, piece):
    """The number just behind the last words of a piece."""
    bits, head = piece
    return (head + 1) << (bits_in_keys(pairs) - bits)


def number_of(pairs, words):
    """The number that the bits of these words make."""
    number = 0
    for (_, width), word in zip(pairs, words):
        number = (number << width) | word
    return number


def is_sure(pairs, spans, whole):
    """Whether a whole holds all words that these spans leave."""
    for (kind, _), (low, high), (first, second) in zip(pairs, spans, whole):
        if kind == "range":
            if low < first or second < high:
                return False
        elif (low ^ high) & second != 0 or low & second != first:
            return False
    return True


def is_out(pairs, spans, whole):
    """Whether a whole holds none of the words that these spans leave."""
    for (kind, _), (low, high), (first, second) in zip(pairs, spans, whole):
        if kind == "range":
            if high < first or second < low:
                return True
        elif (low ^ first) & second & ~(low ^ high) != 0:
            return True
    return False


def side_of(pairs, entries):
    """The whole of each entry, and what it tells."""
    return [(whole_of(pairs, entry[0]), entry[1:]) for entry in entries]


def side_on(pairs, spans, side):
    """Of a side what counts for the words that these spans leave, up to what holds them all."""
    near = []
    for whole, told in side:
        if not is_out(pairs, spans, whole):
            near.append((whole, told))
            if is_sure(pairs, spans, whole):
                break
    return near


def is_settled(pairs, spans, near):
    """Whether what side_on leaves tells the same for all words that these spans leave."""
    return not near or is_sure(pairs, spans, near[0][0])


def told_on(near):
    """What a settled side tells."""
    return near[0][1] if near else None
