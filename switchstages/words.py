"""What whole numbers, rows, words, bytes and names are."""

LETTERS = "abcdefghijklmnopqrstuvwxyz"
FIGURES = "0123456789"
NAME_SIGNS = "abcdefghijklmnopqrstuvwxyz0123456789_"
WORD_WIDTH = 32
# A dict, for a name is looked for in it each time that one is checked.
KEPT_WORDS = {
    "header": True, "local": True, "state": True, "read": True, "accept": True, "refuse": True, "go": True,
    "by": True, "case": True, "else": True, "order": True, "register": True, "action": True, "param": True,
    "table": True, "key": True, "exact": True, "prefix": True, "mask": True, "range": True, "default": True,
    "room": True, "control": True, "end": True, "set": True, "put": True, "strike": True, "touch": True,
    "add": True, "greatest": True, "least": True, "or": True, "into": True, "apply": True, "if": True,
    "then": True, "not": True, "both": True, "and": True, "either": True, "held": True, "in": True,
    "out": True, "gone": True, "entry": True, "to": True,
}


def is_number(value, least, most):
    """Whether value is a whole number from least up to most."""
    # To Python, True and False are ints; here they are no numbers.
    return isinstance(value, int) and least <= value <= most and not isinstance(value, bool)


def is_word(value, width):
    """Whether value is a word below 2 to the width."""
    return isinstance(value, int) and 0 <= value < 1 << width and not isinstance(value, bool)


def is_byte(value):
    """Whether value is a byte."""
    return is_number(value, 0, 255)


def is_row(value, least, most):
    """Whether value is a tuple of least up to most elements, whatever they are."""
    return isinstance(value, tuple) and least <= len(value) <= most


def are_bytes(value, least, most):
    """Whether value is a tuple of least up to most bytes."""
    return is_row(value, least, most) and all([is_number(byte, 0, 255) for byte in value])


def is_name(value):
    """Whether value is a name: short, of plain signs, a letter first, no kept word."""
    if not isinstance(value, str) or not 0 < len(value) <= 12:
        return False
    # Of plain signs alone strip leaves nothing; it is a lot faster than to look at them one by one.
    return not value.strip(NAME_SIGNS) and value[0] in LETTERS and value not in KEPT_WORDS


def is_text_of(value, texts):
    """Whether value is one of these texts."""
    # The value may be anything, so it is compared with texts only if it is one.
    return isinstance(value, str) and value in texts


def are_unlike(parts):
    """Whether no two of these texts, or of these numbers, are the same."""
    return len(set(parts)) == len(parts)


def names_in(parts):
    """The names of headers, fields, states and the like: the first elements, in order."""
    return tuple([part[0] for part in parts])


def are_sized(value, least, most):
    """Whether value is a row of least up to most pairs of a name and a width, the names unlike."""
    if not is_row(value, least, most):
        return False
    # Each call that is passed headers comes here for each of them, so no pair is left to a function of its own.
    for part in value:
        if not isinstance(part, tuple) or len(part) != 2:
            return False
        name, width = part
        if not is_name(name) or not is_number(width, 1, WORD_WIDTH):
            return False
    return are_unlike(names_in(value))


def are_words_for(sized, value):
    """Whether value is a row with a word for each pair of a name and a width."""
    if not isinstance(value, tuple) or len(value) != len(sized):
        return False
    # Each entry of contents comes here, so no word is left to a function of its own.
    for (_, width), word in zip(sized, value):
        if not isinstance(word, int) or not 0 <= word < 1 << width or isinstance(word, bool):
            return False
    return True


def is_nothing(value):
    """Whether value is the empty row."""
    return is_row(value, 0, 0)


def is_same(value, told):
    """Whether value, whatever it is, is what is told: rows of numbers, texts and None."""
    # To Python, True is 1; here it is not.
    if isinstance(told, tuple):
        if not is_row(value, len(told), len(told)):
            return False
        return all([is_same(part, other) for part, other in zip(value, told)])
    if told is None:
        return value is None
    if isinstance(told, int):
        return is_number(value, told, told)
    return isinstance(value, str) and value == told
