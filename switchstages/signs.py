"""Writings: their words and marks, and how they are read one after the other."""

from switchstages.boxes import FIXED_LOCALS
from switchstages.errors import InvalidWriting
from switchstages.reckoning import MOST_WORD
from switchstages.words import FIGURES, is_name, names_in

WORD_SIGNS = "abcdefghijklmnopqrstuvwxyz0123456789_."
BLANKS = " \n"
LONG_MARKS = (">=", "<<", ">>")
# In the order of OPS and CONDS.
OP_MARKS = ("+", "-", "&", "|", "^", "<<", ">>")
COND_MARKS = ("=", "#", "<", ">=")
# What stands between the two numbers that an entry seeks by a key.
KEY_MARKS = {"prefix": "/", "mask": "&", "range": "to"}


class Reader:
    """A writing that is read: its words, marks and other signs, and which of them is the next one."""

    def __init__(self, writing):
        self.parts = parts_of(writing)
        self.at = 0

    def ahead(self):
        """The next part; an empty text at the end."""
        return self.parts[self.at][0]

    def take_if(self, is_right):
        """The next part, which is passed over; the writing is refused by it if it is not right."""
        text, index = self.parts[self.at]
        if not is_right:
            raise InvalidWriting(index)
        self.at = self.at + 1
        return text

    def must(self, text):
        """Pass over the next part, which has to be this text."""
        self.take_if(self.ahead() == text)

    def may(self, text):
        """Whether the next part is this text; it is passed over then."""
        if self.ahead() != text:
            return False
        self.at = self.at + 1
        return True

    def read_one_of(self, texts):
        """The next part, which has to be one of these texts."""
        return self.take_if(self.ahead() in texts)

    def read_name(self):
        """The next part, which has to be a name."""
        return self.take_if(is_name(self.ahead()))

    def read_names(self):
        """The next parts as far as they are names."""
        found = []
        while is_name(self.ahead()):
            found.append(self.read_name())
        return tuple(found)

    def read_number(self):
        """The number of the next part, which has to be one."""
        return int(self.take_if(is_written_number(self.ahead())))

    def read_numbers(self):
        """The numbers of the next parts as far as they are some."""
        found = []
        while is_written_number(self.ahead()):
            found.append(self.read_number())
        return tuple(found)

    def read_place(self):
        """The place of the next part, which has to be one."""
        header, point, field = self.take_if(is_written_place(self.ahead())).partition(".")
        return ("field", header, field) if point == "." else ("local", header)

    def must_end(self):
        """Refuse the writing if it goes on."""
        if self.at < len(self.parts) - 1:
            self.take_if(False)


def parts_of(writing):
    """All words, marks and other signs of a writing with the indexes of their first signs; at last its end."""
    parts = []
    at = 0
    while at < len(writing):
        end = end_of(writing, at)
        if writing[at] not in BLANKS:
            parts.append((writing[at:end], at))
        at = end
    parts.append(("", len(writing)))
    return parts


def end_of(writing, at):
    """The index behind the word, the mark or the other sign that begins here."""
    if writing[at:at + 2] in LONG_MARKS:
        return at + 2
    end = at
    while end < len(writing) and writing[end] in WORD_SIGNS:
        end = end + 1
    return max(end, at + 1)


def is_written_number(text):
    """Whether text is a number: figures without noughts ahead, not above the greatest word."""
    # Ten figures are enough for every word; Python itself refuses to reckon texts of thousands of them.
    if not 1 <= len(text) <= 10 or text.strip(FIGURES) != "":
        return False
    return text == "0" or (text[0] != "0" and int(text) <= MOST_WORD)


def is_written_place(text):
    """Whether text is a place: two names with a point between, or the name of a local."""
    header, point, field = text.partition(".")
    if point == ".":
        return is_name(header) and is_name(field)
    return is_name(text) or text in names_in(FIXED_LOCALS)
