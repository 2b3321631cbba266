"""What whole numbers, rows, words, bytes and names are."""

LETTERS = "abcdefghijklmnopqrstuvwxyz"
NAME_SIGNS = "abcdefghijklmnopqrstuvwxyz0123456789_"
KEPT_WORDS = (
    "header", "local", "state", "read", "accept", "refuse", "go", "by", "case", "else",
    "order", "register", "action", "param", "table", "key", "exact", "prefix", "mask", "range",
    "default", "room", "control", "end", "set", "put", "strike", "touch", "add", "greatest",
    "least", "or", "into", "apply", "if", "then", "not", "both", "and", "either",
    "held", "in", "out", "gone", "entry", "to",
)


def is_number(value, least, most):
    """Whether value is a whole number from least up to most."""
    # To Python, True and False are ints; here they are no numbers.
    if not isinstance(value, int) or isinstance(value, bool):
        return False
    return least <= value <= most


def is_word(value, width):
    """Whether value is a word below 2 to the width."""
    return is_number(value, 0, (1 << width) - 1)


def is_byte(value):
    """Whether value is a byte."""
    return is_word(value, 8)


def is_row(value, least, most):
    """Whether value is a tuple of least up to most elements, whatever they are."""
    return isinstance(value, tuple) and least <= len(value) <= most


def are_bytes(value, least, most):
    """Whether value is a tuple of least up to most bytes."""
    return is_row(value, least, most) and all([is_byte(byte) for byte in value])


def is_name(value):
    """Whether value is a name: short, of plain signs, a letter first, no kept word."""
    if not isinstance(value, str) or not 1 <= len(value) <= 12:
        return False
    plain = all([sign in NAME_SIGNS for sign in value])
    return plain and value[0] in LETTERS and value not in KEPT_WORDS


def is_text_of(value, texts):
    """Whether value is one of these texts."""
    # The value may be anything, so it is compared with texts only if it is one.
    return isinstance(value, str) and value in texts


def are_unlike(texts):
    """Whether no two of these texts are the same."""
    return len(set(texts)) == len(texts)


def names_in(parts):
    """The names of headers, fields or states: the first elements, in order."""
    return tuple([part[0] for part in parts])
