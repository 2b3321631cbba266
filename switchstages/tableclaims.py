"""Claims of tables and ranges: which papers show them."""

from switchstages.entries import first_hit, is_sought
from switchstages.pieces import (
    bits_in_keys, is_out, is_settled, is_sure, number_behind, number_of, side_of, side_on, spans_on, told_on,
)
from switchstages.ranges import are_marks_of
from switchstages.tables import are_entries_for, are_words_of, is_keys
from switchstages.words import WORD_WIDTH, is_number, is_row, is_word

TABLE_CLAIMS = ("tell alike", "part first", "idle", "looked up", "held by", "not held by")
MOST_PIECES = 400
MOST_MANY = 64


def shows_of_table(kind, parts, paper):
    """Whether a paper shows the claim of this kind, one of tables or ranges, with these parts."""
    if kind == "tell alike":
        return len(parts) == 4 and are_sides(parts) and shows_alike(parts, 1 << bits_in_keys(parts[0]), paper)
    if kind == "part first":
        return len(parts) == 5 and are_sides(parts) and are_words_of(parts[0], parts[4]) and shows_parted(parts, paper)
    if kind == "idle" or kind == "looked up":
        if len(parts) != 3 or not is_keys(parts[0]) or not are_entries_for(parts[0], parts[1]):
            return False
        if not is_number(parts[2], 0, len(parts[1]) - 1):
            return False
        return shows_idle(parts, paper) if kind == "idle" else shows_looked_up(parts, paper)
    if len(parts) != 4 or not is_range_claimed(parts):
        return False
    width, low, high, many = parts
    if kind == "held by":
        return are_prefixes(width, low, high, paper) and len(paper) <= many
    return are_marks_of(width, low, high, paper) and len(paper) > many


def are_same_widths(pairs, others):
    """Whether keys have the same widths, whatever their kinds are."""
    return [width for _, width in pairs] == [width for _, width in others]


def are_sides(parts):
    """Whether parts begin with keys, entries for them, keys of the same widths, and entries for these."""
    pairs, entries, other_pairs, others = parts[:4]
    if not is_keys(pairs) or not are_entries_for(pairs, entries):
        return False
    return is_keys(other_pairs) and are_same_widths(pairs, other_pairs) and are_entries_for(other_pairs, others)


def is_row_of_pieces(pairs, end, value):
    """Whether value is a row of pieces that ends at this number."""
    if not is_row(value, 0, MOST_PIECES):
        return False
    most = bits_in_keys(pairs)
    at = 0
    for piece in value:
        if not is_row(piece, 2, 2) or not is_number(piece[0], 0, most):
            return False
        if not is_number(piece[1], 0, (1 << piece[0]) - 1) or piece[1] << (most - piece[0]) != at:
            return False
        at = number_behind(pairs, piece)
    return at == end


def shows_alike(parts, end, paper):
    """Whether the paper is a row that ends at this number, on each piece of which both come to the same."""
    pairs, entries, other_pairs, others = parts[:4]
    if not is_row_of_pieces(pairs, end, paper):
        return False
    ones, twos = side_of(pairs, entries), side_of(other_pairs, others)
    for piece in paper:
        spans = spans_on(pairs, piece)
        one, two = side_on(pairs, spans, ones), side_on(other_pairs, spans, twos)
        if not is_settled(pairs, spans, one) or not is_settled(other_pairs, spans, two) or told_on(one) != told_on(two):
            return False
    return True


def shows_parted(parts, paper):
    """Whether the paper shows that these words are the least ones that are not told alike."""
    pairs, entries, other_pairs, others, words = parts
    at, other = first_hit(pairs, entries, words), first_hit(other_pairs, others, words)
    one = None if at is None else entries[at][1:]
    two = None if other is None else others[other][1:]
    return one != two and shows_alike(parts, number_of(pairs, words), paper)


def shows_idle(parts, paper):
    """Whether the paper is a row of all words, on each piece of which the entry is out or an earlier one is sure."""
    pairs, entries, index = parts
    if not is_row_of_pieces(pairs, 1 << bits_in_keys(pairs), paper):
        return False
    wholes = [whole for whole, _ in side_of(pairs, entries[:index + 1])]
    return all([is_idle_on(pairs, spans_on(pairs, piece), wholes) for piece in paper])


def is_idle_on(pairs, spans, wholes):
    """Whether of wholes the last one holds none of the words that spans leave, or one ahead of it holds them all."""
    return is_out(pairs, spans, wholes[-1]) or any([is_sure(pairs, spans, whole) for whole in wholes[:-1]])


def shows_looked_up(parts, paper):
    """Whether the paper is words that look the entry up."""
    pairs, entries, index = parts
    return are_words_of(pairs, paper) and first_hit(pairs, entries, paper) == index


def is_range_claimed(parts):
    """Whether parts are a width, the bounds of a range, and how many prefixes are told."""
    width, low, high, many = parts
    if not is_number(width, 1, WORD_WIDTH) or not is_word(low, width) or not is_word(high, width):
        return False
    return low <= high and is_number(many, 0, MOST_MANY)


def are_prefixes(width, low, high, value):
    """Whether value is prefixes, one behind the other, that together hold just the words of a range."""
    if not is_row(value, 1, MOST_MANY):
        return False
    at = low
    for prefix in value:
        if not is_sought("prefix", width, prefix) or prefix[0] != at:
            return False
        at = at + (1 << (width - prefix[1]))
    return at == high + 1
