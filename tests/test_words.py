"""Points 4 and 13: whole numbers, rows, words and names."""

import unittest

from switchstages.words import (
    are_bytes, are_sized, are_unlike, are_words_for, is_byte, is_name, is_number, is_row, is_text_of, is_word, names_in,
)
from tests.samples import JUNK, KEPT_WORDS, RIGHT_NAMES, WRONG_NAMES


class WordsTest(unittest.TestCase):
    def test_whole_numbers_within_bounds(self):
        self.assertEqual([is_number(value, 2, 4) for value in (1, 2, 3, 4, 5)], [False, True, True, True, False])

    def test_true_and_false_are_no_numbers(self):
        for value in (True, False):
            self.assertIs(is_number(value, 0, 1), False)
            self.assertIs(is_byte(value), False)
            self.assertIs(is_word(value, 1), False)

    def test_words_are_below_two_to_the_width(self):
        for width in range(1, 33):
            self.assertIs(is_word(0, width), True)
            self.assertIs(is_word(2 ** width - 1, width), True)
            self.assertIs(is_word(2 ** width, width), False)
            self.assertIs(is_word(-1, width), False)

    def test_the_greatest_word(self):
        self.assertEqual([is_word(4294967295, 32), is_word(4294967296, 32)], [True, False])

    def test_bytes(self):
        self.assertEqual([is_byte(value) for value in (-1, 0, 255, 256)], [False, True, True, False])
        self.assertEqual([is_byte(value) for value in ("1", None, b"1", (1,), [1])], [False] * 5)

    def test_rows_are_tuples(self):
        self.assertEqual([is_row((), 0, 1), is_row((1,), 0, 1), is_row((1, 2), 0, 1)], [True, True, False])
        self.assertEqual([is_row([], 0, 1), is_row("a", 0, 1), is_row({}, 0, 1), is_row(None, 0, 1)], [False] * 4)

    def test_rows_of_bytes(self):
        self.assertEqual([are_bytes((), 0, 2), are_bytes((0, 255), 0, 2)], [True, True])
        self.assertEqual([are_bytes((0, 256), 0, 2), are_bytes((True,), 0, 2), are_bytes(b"a", 0, 2)], [False] * 3)

    def test_names(self):
        for name in RIGHT_NAMES:
            self.assertIs(is_name(name), True, name)
        for name in WRONG_NAMES + [value for value in JUNK if value != "text"]:
            self.assertIs(is_name(name), False, name)

    def test_kept_words_begin_names(self):
        self.assertEqual(len(KEPT_WORDS), 46)
        for word in KEPT_WORDS:
            self.assertIs(is_name(word), False, word)
            self.assertIs(is_name(word + "_"), True, word)

    def test_texts(self):
        self.assertEqual([is_text_of("a", ("a", "b")), is_text_of("c", ("a", "b"))], [True, False])
        for value in JUNK:
            self.assertIs(is_text_of(value, ("a", "b")), False)
        self.assertEqual([are_unlike(()), are_unlike(("a", "b")), are_unlike(("a", "b", "a"))], [True, True, False])

    def test_pairs_of_a_name_and_a_width(self):
        pairs = (("a", 1), ("b", 32), ("c", 8))
        self.assertEqual([are_sized(pairs, 0, 3), are_sized(pairs, 0, 2), are_sized(pairs, 4, 5)], [True, False, False])
        self.assertEqual([are_sized((), 0, 3), are_sized((), 1, 3), names_in(pairs)], [True, False, ("a", "b", "c")])
        for part in [("d", 0), ("d", 33), ("d", True), ("d",), ("d", 1, 1), ["d", 1], ("in", 1), ("a", 2), (1, "d"),
            None]:
            self.assertIs(are_sized(pairs + (part,), 0, 4), False, part)

    def test_words_for_pairs_of_a_name_and_a_width(self):
        pairs = (("a", 1), ("b", 32))
        for words, right in [
            ((0, 0), True), ((1, 4294967295), True), ((2, 0), False), ((0, 4294967296), False), ((0,), False),
            ((0, 0, 0), False), ([0, 0], False), ((True, 0), False), ((0, None), False), (None, False),
            ((-1, 0), False),
        ]:
            self.assertIs(are_words_for(pairs, words), right, words)
        self.assertIs(are_words_for((), ()), True)


if __name__ == "__main__":
    unittest.main()
