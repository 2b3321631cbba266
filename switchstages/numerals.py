"""Numbers in the lines of the console."""

from switchstages.headers import is_packet
from switchstages.layouts import is_chip
from switchstages.words import FIGURES

MOST_FIGURES = 10


def is_numeral(text):
    """Whether a text is a number of few figures, without noughts ahead."""
    if not 0 < len(text) <= MOST_FIGURES or text.strip(FIGURES):
        return False
    return text == "0" or text[0] != "0"


def numbers_in(words):
    """The numbers that words are; None if one of them is none."""
    if not all([is_numeral(word) for word in words]):
        return None
    return [int(word) for word in words]


def packet_in(numbers):
    """The packet that numbers tell: where it comes in, and its bytes; None if they tell none."""
    if not numbers:
        return None
    packet = (numbers[0], tuple(numbers[1:]))
    return packet if is_packet(packet) else None


def chip_in(numbers):
    """The chip that numbers tell; None if they tell none."""
    return tuple(numbers) if is_chip(tuple(numbers)) else None
