"""What entries tell as a tree of bits, and the words for which two rows of entries do not tell the same."""

from switchstages.errors import InvalidForm, TooMany
from switchstages.partings import least_parting
from switchstages.pieces import (
    WHOLE_PIECE, bits_in_keys, halves_of, is_settled, number_of, side_of, side_on, spans_on, told_on,
)
from switchstages.tables import are_args, check_entries, check_keys, check_words
from switchstages.words import is_name, is_number, is_row, is_text_of

MOST_FORM_BITS = 12


def form_of(keys, entries):
    """The form of what entries tell."""
    check_keys(keys)
    check_entries(keys, entries)
    if bits_in_keys(keys) > MOST_FORM_BITS:
        raise TooMany(bits_in_keys(keys))
    return form_on(keys, WHOLE_PIECE, side_of(keys, entries))


def form_on(pairs, piece, side):
    """The form of what a side tells on a piece."""
    spans = spans_on(pairs, piece)
    near = side_on(pairs, spans, side)
    if is_settled(pairs, spans, near):
        told = told_on(near)
        return None if told is None else ("told",) + told
    lower, upper = halves_of(piece)
    by_zero, by_one = form_on(pairs, lower, near), form_on(pairs, upper, near)
    return by_zero if by_zero == by_one else ("bit", piece[0], by_zero, by_one)


def form_tells(keys, form, words):
    """What a form tells for these words."""
    check_keys(keys)
    if not is_form(bits_in_keys(keys), form):
        raise InvalidForm(form)
    check_words(keys, words)
    number, behind = number_of(keys, words), bits_in_keys(keys) - 1
    while form is not None and form[0] == "bit":
        form = form[2 + ((number >> (behind - form[1])) & 1)]
    return None if form is None else form[1:]


def is_form(bits, value):
    """Whether value is a form in which bits with an index below this stand alone."""
    left, asked = [(value, 0)], []
    while left:
        part, least = left.pop()
        if not is_form_part(bits, least, part):
            return False
        if part is not None and part[0] == "bit":
            left.extend([(part[2], part[1] + 1), (part[3], part[1] + 1)])
            asked.append(part)
    # Only what else is a form is compared: other values may take long.
    return all([part[2] != part[3] for part in asked])


def is_form_part(bits, least, value):
    """Whether value is a form so far as can be told without looking into the forms within it."""
    if value is None:
        return True
    if not is_row(value, 3, 4) or not is_text_of(value[0], ("told", "bit")):
        return False
    if value[0] == "told":
        return len(value) == 3 and is_name(value[1]) and are_args(value[2])
    return len(value) == 4 and is_number(value[1], least, bits - 1)


def parting(keys, entries, others):
    """The least words for which both do not tell the same; None if there are none."""
    check_keys(keys)
    check_entries(keys, entries)
    check_entries(keys, others)
    return least_parting(keys, entries, others)
