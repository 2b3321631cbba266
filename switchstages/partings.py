"""The least words for which two rows of entries do not tell the same."""

from switchstages.covers import is_covered, shared_by, words_beside
from switchstages.pieces import WHOLE_PIECE, bits_in_keys, halves_of, number_of, side_of, side_on, spans_on, whole_on


def least_parting(pairs, entries, others):
    """The least words for which entries and others do not tell the same; None if there are none."""
    everything = (whole_on(pairs, WHOLE_PIECE), None)
    ones, twos = side_of(pairs, entries) + [everything], side_of(pairs, others) + [everything]
    words = parting_on(pairs, WHOLE_PIECE, ones, twos)
    if words is None:
        return None
    piece = WHOLE_PIECE
    many = bits_in_keys(pairs)
    # Bit by bit: the words found show which half has some; only where it is the upper one, the lower one is asked.
    while piece[0] < many:
        lower, upper = halves_of(piece)
        piece = lower
        if (number_of(pairs, words) >> (many - lower[0])) & 1 == 1:
            found = parting_on(pairs, lower, ones, twos)
            if found is None:
                piece = upper
            else:
                words = found
        spans = spans_on(pairs, piece)
        ones, twos = side_on(pairs, spans, ones), side_on(pairs, spans, twos)
    return words


def parting_on(pairs, piece, ones, twos):
    """Any words of a piece for which two sides do not tell the same; None if there are none."""
    spans = spans_on(pairs, piece)
    ones, twos = side_on(pairs, spans, ones), side_on(pairs, spans, twos)
    same = alike_ahead(ones, twos)
    # Words of what both begin with are told the same, and are taken away from all behind.
    ahead = [whole for whole, _ in ones[:same]]
    all_here = whole_on(pairs, piece)
    for whole, told in ones[same:]:
        within = shared_by(pairs, all_here, whole)
        if not is_covered(pairs, within, ahead):
            words = parting_within(pairs, within, ahead, told, twos[same:])
            if words is not None:
                return words
            ahead.append(whole)
    return None


def alike_ahead(ones, twos):
    """With how many alike elements two sides begin."""
    many = 0
    while many < min(len(ones), len(twos)) and ones[many] == twos[many]:
        many = many + 1
    return many


def parting_within(pairs, within, ahead, told, twos):
    """Any words of a whole, but not of those ahead, for which a side does not tell this; None if there are none."""
    barred = list(ahead)
    for whole, other in twos:
        both = shared_by(pairs, within, whole)
        if both is None:
            continue
        if other != told:
            words = words_beside(pairs, both, barred)
            if words is not None:
                return words
        if both == within:
            return None
        barred.append(whole)
    return None
