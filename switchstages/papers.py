"""Papers of pieces: rows of them that show what two tables tell, or that an entry is idle."""

from switchstages.errors import TooMany
from switchstages.pieces import (
    WHOLE_PIECE, first_words, halves_of, is_out, is_settled, is_sure, side_of, side_on, spans_on, told_on,
)
from switchstages.tableclaims import MOST_PIECES


def pieces_alike(pairs, entries, other_pairs, others):
    """The pieces on which both come to the same, and the first words for which they do not; None for no such words."""
    row = []
    left = [(WHOLE_PIECE, side_of(pairs, entries), side_of(other_pairs, others))]
    while left:
        piece, ones, twos = left.pop()
        spans = spans_on(pairs, piece)
        one, two = side_on(pairs, spans, ones), side_on(other_pairs, spans, twos)
        if not is_settled(pairs, spans, one) or not is_settled(other_pairs, spans, two):
            lower, upper = halves_of(piece)
            left.extend([(upper, one, two), (lower, one, two)])
        elif told_on(one) != told_on(two):
            return tuple(row), first_words(pairs, piece)
        else:
            add_piece(row, piece)
    return tuple(row), None


def add_piece(row, piece):
    """Add a piece to a row, if it has not too many."""
    if len(row) == MOST_PIECES:
        raise TooMany(MOST_PIECES)
    row.append(piece)


def pieces_idle(pairs, entries, index):
    """The pieces on which an entry is not looked up, and the first words that look it up; None for no such words."""
    row = []
    left = [(WHOLE_PIECE, [whole for whole, _ in side_of(pairs, entries[:index + 1])])]
    while left:
        piece, wholes = left.pop()
        spans = spans_on(pairs, piece)
        own, ahead = wholes[-1], wholes[:-1]
        if is_out(pairs, spans, own) or any([is_sure(pairs, spans, whole) for whole in ahead]):
            add_piece(row, piece)
            continue
        near = [whole for whole in ahead if not is_out(pairs, spans, whole)]
        if not near and is_sure(pairs, spans, own):
            return tuple(row), first_words(pairs, piece)
        lower, upper = halves_of(piece)
        left.extend([(upper, near + [own]), (lower, near + [own])])
    return tuple(row), None
