"""Keys of tables and what entries seek by them: which values are right, and which words hit."""

from switchstages.words import is_word

KINDS = ("exact", "prefix", "mask", "range")
MOST_KEYS = 3
MOST_KEY_BITS = 48
MOST_ENTRIES = 32


def are_sought(pairs, value):
    """Whether value is what an entry may seek by these pairs of a kind and a width."""
    # Each call that is passed contents comes here for each of their entries, so this keeps to plain loops.
    if not isinstance(value, tuple) or len(value) != len(pairs):
        return False
    for (kind, width), part in zip(pairs, value):
        if not is_sought(kind, width, part):
            return False
    return True


def is_sought(kind, width, value):
    """Whether value is what an entry may seek by one key."""
    if kind == "exact":
        return is_word(value, width)
    if not isinstance(value, tuple) or len(value) != 2:
        return False
    word, second = value
    if not isinstance(word, int) or not isinstance(second, int) or isinstance(word, bool) or isinstance(second, bool):
        return False
    if kind == "prefix":
        return 0 <= word < 1 << width and 0 <= second <= width and word & ((1 << (width - second)) - 1) == 0
    # A word within a mask is at most the mask, so in both cases the second number is the greater one.
    return 0 <= word <= second < 1 << width and (kind == "range" or word & second == word)


def as_mask(kind, width, sought):
    """The word and the mask by which just the same words are hit; of all kinds but range."""
    whole = (1 << width) - 1
    if kind == "exact":
        return sought, whole
    if kind == "mask":
        return sought
    word, bits = sought
    return word, whole ^ ((1 << (width - bits)) - 1)


def is_hit(pairs, sought, words):
    """Whether these words hit what an entry seeks."""
    return all([is_key_hit(kind, width, part, word) for (kind, width), part, word in zip(pairs, sought, words)])


def is_key_hit(kind, width, sought, word):
    """Whether this word hits what an entry seeks by one key."""
    if kind == "range":
        return sought[0] <= word <= sought[1]
    wanted, mask = as_mask(kind, width, sought)
    return word & mask == wanted


def first_hit(pairs, entries, words):
    """The index of the first entry that these words hit; None if they hit none."""
    for index, entry in enumerate(entries):
        if is_hit(pairs, entry[0], words):
            return index
    return None
