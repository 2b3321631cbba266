"""What is reckoned of words, and which comparisons hold of them."""

OPS = ("add", "sub", "and", "or", "xor", "left", "right")
# The same as a dict, in which one is found faster.
OP_WORDS = {"add": True, "sub": True, "and": True, "or": True, "xor": True, "left": True, "right": True}
CONDS = ("same", "other", "below", "from")
WAYS = ("add", "set", "greatest", "least", "or")
MOST_WORD = 4294967295


def reckoned(op, one, other):
    """What an operation makes of two words."""
    if op == "add":
        return (one + other) & MOST_WORD
    if op == "sub":
        return (one - other) & MOST_WORD
    if op == "and":
        return one & other
    if op == "or":
        return one | other
    if op == "xor":
        return one ^ other
    # Of the second word only the last five bits count: it is taken modulo 32.
    shift = other & 31
    return (one << shift) & MOST_WORD if op == "left" else one >> shift


def is_so(cond, one, other):
    """Whether a comparison holds of two words."""
    if cond == "same":
        return one == other
    if cond == "other":
        return one != other
    return one < other if cond == "below" else one >= other


def touched(way, old, word, width):
    """What a cell of this width becomes of what it has and the word with which it is touched."""
    if way == "add":
        return (old + word) & ((1 << width) - 1)
    if way == "greatest":
        return max(old, word)
    if way == "least":
        return min(old, word)
    return old | word if way == "or" else word
