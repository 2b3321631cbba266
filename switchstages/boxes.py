"""The boxes of a packet in a program: what is known of them by their names in expressions."""

from switchstages.states import LOCAL_IN
from switchstages.words import is_row, is_word

FIXED_LOCALS = (("in", 8), ("out", 8), ("gone", 1))


def box_widths(headers, own):
    """The width of each box by its name in expressions, in the order of the boxes; own are the program's locals."""
    widths = {("local", name): width for name, width in FIXED_LOCALS + own}
    for name, fields in headers:
        widths[("held", name)] = 1
        for field, width in fields:
            widths[("field", name, field)] = width
    return widths


def is_known(known, value):
    """Whether value is one of the expressions known, which are rows of two or three texts."""
    # Only a row of texts is looked up: what else the value may be need not be fit for that.
    if not isinstance(value, tuple):
        return False
    if len(value) == 3:
        first, second, third = value
        return isinstance(first, str) and isinstance(second, str) and isinstance(third, str) and value in known
    return len(value) == 2 and isinstance(value[0], str) and isinstance(value[1], str) and value in known


def is_place(known, value):
    """Whether value is a place: a local or a field that is there."""
    return is_known(known, value) and value[0] in ("local", "field")


def is_target(known, value):
    """Whether value is a place that may be set."""
    return is_known(known, value) and value[0] in ("local", "field") and value != LOCAL_IN


def box_name(box):
    """The name that the interface gives to a box."""
    return box if box[0] == "local" else box[1:]


def is_filling(widths, value):
    """Whether value is a filling of the boxes with these widths."""
    if not is_row(value, len(widths), len(widths)):
        return False
    if not all([is_word(word, width) for width, word in zip(widths.values(), value)]):
        return False
    words = {box: word for box, word in zip(widths, value)}
    return all([words[box] == 0 for box in widths if box[0] == "field" and words[("held", box[1])] == 0])
