"""The states of a parser: what they are, and where they lead."""

from switchstages.words import are_unlike, is_name, is_row, is_text_of, is_word, names_in

MOST_STATES = 8
MOST_CASES = 8
ENDS = ("accept", "refuse")
LOCAL_IN = ("local", "in")


def is_parser(headers, value):
    """Whether value is a parser for these headers."""
    if not is_row(value, 1, MOST_STATES) or not all([is_state_begun(headers, state) for state in value]):
        return False
    names = names_in(value)
    if not are_unlike(names):
        return False
    # A state may lead only to states further behind, so these names are all that its aims may be.
    leads = [is_onward(headers, names[index + 1:], state[2]) for index, state in enumerate(value)]
    return all(leads) and not comes_twice(value)


def is_state_begun(headers, value):
    """Whether value is a state so far as can be told without the states behind it."""
    if not is_row(value, 3, 3) or not is_name(value[0]):
        return False
    return value[1] is None or is_text_of(value[1], names_in(headers))


def is_onward(headers, later, value):
    """Whether value is the NEXT of a state; later are the names of the states behind it."""
    if not is_row(value, 1, 4) or not isinstance(value[0], str):
        return False
    if value[0] == "go":
        return len(value) == 2 and is_text_of(value[1], later)
    if value[0] == "by":
        return len(value) == 4 and is_choice(headers, later + ENDS, value)
    return len(value) == 1 and value[0] in ENDS


def is_choice(headers, aims, onward):
    """Whether the parts of a NEXT that begins with by are right, these being the aims that it may have."""
    _, place, cases, otherwise = onward
    width = width_of(headers, place)
    if width is None or not is_row(cases, 0, MOST_CASES):
        return False
    return all([is_case(width, aims, case) for case in cases]) and is_text_of(otherwise, aims)


def is_case(width, aims, value):
    """Whether value is a case for a place of this width."""
    if not is_row(value, 3, 3) or not is_word(value[0], width) or not is_word(value[1], width):
        return False
    word, mask, aim = value
    return word & mask == word and is_text_of(aim, aims)


def width_of(headers, place):
    """The width of a place that a parser may ask; None for what is no such place."""
    if not is_row(place, 2, 3) or not all([isinstance(part, str) for part in place]):
        return None
    if place == LOCAL_IN:
        return 8
    if place[0] != "field":
        return None
    widths = {(name, field): width for name, fields in headers for field, width in fields}
    return widths.get(place[1:])


def comes_twice(parser):
    """Whether one comes along aims from a state to another one that reads, or asks, the same."""
    met_from = {"accept": [], "refuse": []}
    for state in reversed(parser):
        behind = []
        for aim in aims_of(state[2]):
            behind = behind + [thing for thing in met_from[aim] if thing not in behind]
        own = things_of(state)
        if any([thing in behind for thing in own]):
            return True
        met_from[state[0]] = own + behind
    return False


def things_of(state):
    """The header that a state reads and the place that it asks, so far as it does."""
    things = []
    if state[1] is not None:
        things.append(("read", state[1]))
    if place_of(state[2]) is not None:
        things.append(("ask", place_of(state[2])))
    return things


def place_of(onward):
    """The place that a NEXT asks; None if it asks none."""
    return onward[1] if onward[0] == "by" else None


def aims_of(onward):
    """All aims of a NEXT, in order."""
    if onward[0] == "go":
        return [onward[1]]
    if onward[0] == "by":
        return [case[2] for case in onward[2]] + [onward[3]]
    return [onward[0]]


def aim_by(onward, word):
    """The aim to which a NEXT leads where its place, if it asks one, has this word."""
    if onward[0] != "by":
        return aims_of(onward)[0]
    for wanted, mask, aim in onward[2]:
        if word & mask == wanted:
            return aim
    return onward[3]
