"""Ranges as prefixes: the fewest of them, what shows that fewer are too few, and entries without ranges."""

from switchstages.entries import MOST_ENTRIES
from switchstages.errors import InvalidNumber, InvalidWord, TooMany
from switchstages.tables import check_entries, check_keys
from switchstages.words import WORD_WIDTH, is_number, is_row, is_word


def prefixes_of(width, low, high):
    """The fewest prefixes that together hold just the words from low up to high, ascending."""
    check_range(width, low, high)
    return prefixes_in(width, low, high)


def are_marks(width, low, high, value):
    """Whether value is ascending words of the range, no two of which one prefix within it holds."""
    check_range(width, low, high)
    return are_marks_of(width, low, high, value)


def spread(keys, entries):
    """The keys with prefixes for ranges, and entries for them that tell the same."""
    check_keys(keys)
    check_entries(keys, entries)
    parted = [[parts_of_key(pair, part) for pair, part in zip(keys, entry[0])] for entry in entries]
    many = sum([how_many(parts) for parts in parted])
    if many > MOST_ENTRIES:
        raise TooMany(many)
    spread_keys = tuple([("prefix" if kind == "range" else kind, width) for kind, width in keys])
    found = []
    for entry, parts in zip(entries, parted):
        found.extend([(sought,) + entry[1:] for sought in combined(parts)])
    return spread_keys, tuple(found)


def check_range(width, low, high):
    """Raise the error of the first of these that is wrong."""
    if not is_number(width, 1, WORD_WIDTH):
        raise InvalidNumber(width)
    if not is_word(low, width):
        raise InvalidWord(low)
    if not is_word(high, width) or high < low:
        raise InvalidWord(high)


def prefixes_in(width, low, high):
    """What prefixes_of tells, its parameters being right."""
    found = []
    while low <= high:
        # The greatest prefix that begins at low is bound by the noughts at its end; it must not go beyond high.
        free = 0
        while free < width and low & (1 << free) == 0 and low + (2 << free) - 1 <= high:
            free = free + 1
        found.append((low, width - free))
        low = low + (1 << free)
    return tuple(found)


def are_marks_of(width, low, high, value):
    """What are_marks tells, the range being right."""
    if not is_row(value, 0, high - low + 1) or not all([is_number(mark, low, high) for mark in value]):
        return False
    begins = [word for word, _ in prefixes_in(width, low, high)]
    # Each prefix within the range lies in one of these, so marks have to be in different ones.
    at = -1
    for mark in value:
        if at + 1 == len(begins) or mark < begins[at + 1]:
            return False
        at = max([index for index, word in enumerate(begins) if word <= mark])
    return True


def parts_of_key(pair, sought):
    """What is sought in the place of this by one key."""
    kind, width = pair
    return prefixes_in(width, sought[0], sought[1]) if kind == "range" else (sought,)


def how_many(parts):
    """How many combinations there are of one of each."""
    many = 1
    for part in parts:
        many = many * len(part)
    return many


def combined(parts):
    """All combinations of one of each, the first one going slowest."""
    rows = [()]
    for part in parts:
        rows = [row + (one,) for row in rows for one in part]
    return rows
