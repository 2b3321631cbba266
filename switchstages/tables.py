"""Entries looked up by the keys of a table: which one is hit, what they tell, and which ones are idle."""

from switchstages.covers import is_covered, whole_of
from switchstages.entries import KINDS, MOST_ENTRIES, MOST_KEYS, MOST_KEY_BITS, are_sought, first_hit
from switchstages.errors import InvalidEntries, InvalidKeys, InvalidWords
from switchstages.words import WORD_WIDTH, is_name, is_number, is_row, is_text_of, is_word

MOST_ARGS = 4


def is_keys(value):
    """Whether value is the keys of a table, whatever it is."""
    if not is_row(value, 1, MOST_KEYS) or not all([is_pair(pair) for pair in value]):
        return False
    return sum([width for _, width in value]) <= MOST_KEY_BITS


def is_pair(value):
    """Whether value is a kind and a width."""
    return is_row(value, 2, 2) and is_text_of(value[0], KINDS) and is_number(value[1], 1, WORD_WIDTH)


def are_entries(keys, value):
    """Whether value is entries for these keys, whatever it is."""
    check_keys(keys)
    return are_entries_for(keys, value)


def are_entries_for(keys, value):
    """Whether value is entries for these keys, which are right."""
    return is_row(value, 0, MOST_ENTRIES) and all([is_entry(keys, entry) for entry in value])


def are_words_of(keys, value):
    """Whether value is a word for each of these keys."""
    if not is_row(value, len(keys), len(keys)):
        return False
    return all([is_word(word, width) for word, (_, width) in zip(value, keys)])


def is_entry(keys, value):
    """Whether value is an entry for these keys."""
    if not is_row(value, 3, 3) or not are_sought(keys, value[0]) or not is_name(value[1]):
        return False
    return are_args(value[2])


def are_args(value):
    """Whether value is what an entry may tell behind its action."""
    return is_row(value, 0, MOST_ARGS) and all([is_word(word, WORD_WIDTH) for word in value])


def hit_by(keys, entries, words):
    """The index of the entry that is looked up by these words; None if none is hit."""
    check_lookup(keys, entries, words)
    return first_hit(keys, entries, words)


def told_by(keys, entries, words):
    """The action and the arguments that entries tell for these words; None if none is hit."""
    check_lookup(keys, entries, words)
    index = first_hit(keys, entries, words)
    return None if index is None else entries[index][1:]


def idle_in(keys, entries):
    """The indexes of the entries that no words look up."""
    check_keys(keys)
    check_entries(keys, entries)
    return tuple(idle_among(keys, entries))


def without_idle(keys, entries):
    """The entries that are not idle."""
    check_keys(keys)
    check_entries(keys, entries)
    idle = idle_among(keys, entries)
    return tuple([entry for index, entry in enumerate(entries) if index not in idle])


def idle_among(keys, entries):
    """What idle_in tells, as a list, keys and entries being right."""
    idle, ahead = [], []
    for index, entry in enumerate(entries):
        whole = whole_of(keys, entry[0])
        if is_covered(keys, whole, ahead):
            idle.append(index)
        else:
            # What an idle entry seeks is covered by those ahead of it, so only the others are kept.
            ahead.append(whole)
    return idle


def check_keys(keys):
    """Raise the error of what is no keys."""
    if not is_keys(keys):
        raise InvalidKeys(keys)


def check_entries(keys, entries):
    """Raise the error of what is no entries for these keys."""
    if not is_row(entries, 0, MOST_ENTRIES):
        raise InvalidEntries(None)
    for index, entry in enumerate(entries):
        if not is_entry(keys, entry):
            raise InvalidEntries(index)


def check_words(keys, words):
    """Raise the error of what is no row of a word for each key."""
    if not is_row(words, len(keys), len(keys)):
        raise InvalidWords(None)
    for index, word in enumerate(words):
        if not is_word(word, keys[index][1]):
            raise InvalidWords(index)


def check_lookup(keys, entries, words):
    """Raise the error of the first of these that is wrong."""
    check_keys(keys)
    check_entries(keys, entries)
    check_words(keys, words)
