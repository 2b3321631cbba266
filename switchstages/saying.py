"""Lines of the console that change its state: each one leads to a state and an answer."""

# A state is (PROGRAM, CONTENTS, CELLS, LAYOUT, COMING).

from switchstages.answers import NOT_UNDERSTOOD, layout_shown, outcome_shown
from switchstages.errors import InvalidWriting, TooMany
from switchstages.fitting import fitted_stages
from switchstages.flows import MOST_BEAT
from switchstages.layouts import MOST_GAP, check_ways, early_of, is_layout_of
from switchstages.making import made_of
from switchstages.numerals import chip_in, numbers_in, packet_in
from switchstages.parsers import parsed
from switchstages.plans import Plan
from switchstages.programs import cells_at_first, worked_in_row
from switchstages.texts import contents_read, read_program
from switchstages.units import check_small
from switchstages.wishes import wish_broken
from switchstages.words import is_number

FRESH = (None, (), (), None, ())
MOST_COMING = 20
TRIES = 100


def program_told(state, writing):
    """A program is read, and stands with nothing else."""
    try:
        program = read_program(writing)
        made = made_of(program)
        check_small(made)
    except InvalidWriting as refused:
        place = refused.place
        return state, "no program told" if place is None else f"not read at {place}"
    except TooMany as found:
        return state, f"too many: {found.given}"
    fresh = (program, ((),) * len(program[6]), cells_at_first(program), None, ())
    return fresh, f"{len(made[0])} boxes, {len(made[1])} units"


def contents_told(state, writing):
    """Contents are read."""
    try:
        contents = contents_read(state[0], writing)
    except InvalidWriting as refused:
        place = refused.place
        return state, "no contents told" if place is None else f"not read at {place}"
    return (state[0], contents) + state[2:], "kept"


def cell_told(state, words):
    """A cell becomes a word."""
    numbers = numbers_in(words)
    program, contents, cells, layout, coming = state
    if numbers is None or len(numbers) != 3 or numbers[0] >= len(program[4]):
        return state, NOT_UNDERSTOOD
    at, index, word = numbers
    _, width, many = program[4][at]
    if not is_number(index, 0, many - 1) or not is_number(word, 0, (1 << width) - 1):
        return state, NOT_UNDERSTOOD
    row = cells[at][:index] + (word,) + cells[at][index + 1:]
    return (program, contents, cells[:at] + (row,) + cells[at + 1:], layout, coming), "done"


def send_told(state, words):
    """A packet is worked plainly."""
    packet = packet_in(numbers_in(words))
    if packet is None:
        return state, NOT_UNDERSTOOD
    program, contents, cells, layout, coming = state
    outcomes, left = worked_in_row(program, contents, cells, (packet,))
    return (program, contents, left, layout, coming), outcome_shown(outcomes[0])


def lay_told(state, words):
    """A layout is told by its gap and stages."""
    numbers = numbers_in(words)
    made = made_of(state[0])
    if not numbers or not is_layout_of(made, (numbers[0], tuple(numbers[1:]))):
        return state, NOT_UNDERSTOOD
    return laid_out(state, made, (numbers[0], tuple(numbers[1:])))


def early_told(state, words):
    """The early layout is asked for."""
    if words:
        return state, NOT_UNDERSTOOD
    made = made_of(state[0])
    try:
        layout = early_of(state[0], made)
    except TooMany as found:
        return state, f"too many: {found.given}"
    return laid_out(state, made, layout)


def fit_told(state, words):
    """A layout that fits a chip is asked for."""
    numbers = numbers_in(words)
    if numbers is None or len(numbers) != 6 or not is_number(numbers[0], 1, MOST_GAP) or chip_in(numbers[1:]) is None:
        return state, NOT_UNDERSTOOD
    made = made_of(state[0])
    plan = Plan(state[0], made)
    try:
        check_ways(plan)
    except TooMany as found:
        return state, f"too many: {found.given}"
    stages = fitted_stages(state[0], plan, made, (numbers[0], chip_in(numbers[1:])), TRIES)
    if stages is None:
        return state, "none fits"
    return laid_out(state, made, (numbers[0], tuple(stages)))


def laid_out(state, made, layout):
    """The layout stands, and is answered by its word."""
    program, contents, cells, _, coming = state
    plan = Plan(program, made)
    try:
        check_ways(plan)
    except TooMany as found:
        return state, f"too many: {found.given}"
    broken = wish_broken(plan, layout[0], layout[1])
    return (program, contents, cells, layout, coming), layout_shown(layout, broken, len(made[1]))


def come_told(state, words):
    """A packet is going to come at a beat."""
    numbers = numbers_in(words)
    packet = None if not numbers else packet_in(numbers[1:])
    if packet is None or numbers[0] > MOST_BEAT:
        return state, NOT_UNDERSTOOD
    program, contents, cells, layout, coming = state
    if parsed((program[0], program[2], program[3]), packet) is None:
        return state, "refused"
    if coming and numbers[0] <= coming[-1][0]:
        return state, "not later"
    if len(coming) == MOST_COMING:
        return state, "full"
    coming = coming + ((numbers[0], packet),)
    return (program, contents, cells, layout, coming), f"{len(coming)} come"


def empty_told(state, words):
    """Nothing comes any more."""
    return (state, NOT_UNDERSTOOD) if words else (state[:4] + ((),), "done")


def new_told(state, words):
    """Everything is as at first."""
    return (state, NOT_UNDERSTOOD) if words else (FRESH, "done")


# Those of these two words take what stands behind the first blank as it is.
BY_WRITING = {"program": program_told, "contents": contents_told}
BY_WORDS = {
    "cell": cell_told, "send": send_told, "lay": lay_told, "early": early_told, "fit": fit_told, "come": come_told,
    "empty": empty_told, "new": new_told,
}


def changed_by_writing(state, word, writing):
    """The state and the answer to a line of a word of BY_WRITING."""
    told = BY_WRITING[word]
    return told(state, writing)


def changed_by_words(state, word, words):
    """The state and the answer to a line of a word of BY_WORDS."""
    told = BY_WORDS[word]
    return told(state, words)
