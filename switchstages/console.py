"""The console: lines that lead from state to state, and their answers."""

from switchstages.answers import NOT_UNDERSTOOD
from switchstages.asking import ASKED_ALONE, ASKED_BY_WORDS, answer_to
from switchstages.errors import InvalidLines
from switchstages.saying import BY_WORDS, BY_WRITING, FRESH, changed_by_words, changed_by_writing
from switchstages.words import is_row

MOST_EARLIER = 20
MOST_LINES = 60
WITHOUT_PROGRAM = ("program", "new", "back")
KEPT_IF_DONE = ("cell", "empty", "new")


def fresh_console():
    """The console without a program."""
    return FRESH, ()


def said(console, line):
    """The console behind a line, and the answer to it."""
    if not isinstance(line, str):
        raise InvalidLines(None)
    return said_to(console, line)


def told_all(console, lines):
    """The console behind all lines, and the answers to them."""
    if not is_row(lines, 0, MOST_LINES):
        raise InvalidLines(None)
    for index, line in enumerate(lines):
        if not isinstance(line, str):
            raise InvalidLines(index)
    answers = []
    for line in lines:
        console, answer = said_to(console, line)
        answers.append(answer)
    return console, tuple(answers)


def said_to(console, line):
    """What said tells, the line being a text."""
    state, earlier = console
    words = [word for word in line.split(" ") if word]
    word = words[0] if words else ""
    if not is_word_told(word):
        return console, NOT_UNDERSTOOD
    if state[0] is None and word not in WITHOUT_PROGRAM:
        return console, "no program"
    if word == "back":
        return went_back(console, words)
    if word in ASKED_BY_WORDS or word in ASKED_ALONE:
        return console, answer_to(state, word, words[1:])
    changed, answer = changed_by(state, word, line)
    if changed != state or word in KEPT_IF_DONE and answer == "done":
        earlier = (earlier + (state,))[-MOST_EARLIER:]
    return (changed, earlier), answer


def is_word_told(word):
    """Whether a line may begin with this word."""
    if word in BY_WRITING or word in BY_WORDS or word == "back":
        return True
    return word in ASKED_BY_WORDS or word in ASKED_ALONE


def went_back(console, words):
    """The console with its last earlier state."""
    _, earlier = console
    if len(words) > 1:
        return console, NOT_UNDERSTOOD
    if not earlier:
        return console, "nothing there"
    return (earlier[-1], earlier[:-1]), "back"


def changed_by(state, word, line):
    """The state and the answer to a line that may change the state."""
    if word in BY_WORDS:
        return changed_by_words(state, word, [part for part in line.split(" ") if part][1:])
    # A writing begins just behind the first blank behind the word.
    _, blank, writing = line.lstrip(" ").partition(" ")
    return changed_by_writing(state, word, writing) if blank else (state, NOT_UNDERSTOOD)
