"""Point 23: ranges as prefixes, marks, and entries without ranges."""

import itertools
import unittest

from switchstages.errors import InvalidEntries, InvalidKeys, InvalidNumber, InvalidWord, TooMany
from switchstages.keyforms import form_of, parting
from switchstages.ranges import are_marks, prefixes_of, spread
from switchstages.tables import are_entries, is_keys
from tests.makers import Maker
from tests.samples import JUNK, assert_raises
from tests.test_tables import KEYS, THREE, WRONG_KEYS

MOST = 4294967295


def words_held(width, prefix):
    word, bits = prefix
    return range(word, word + 2 ** (width - bits))


def all_prefixes(width, low, high):
    """All prefixes that hold words of the range alone."""
    return [
        (word, bits) for bits in range(width + 1) for word in range(0, 2 ** width, 2 ** (width - bits))
        if low <= word and word + 2 ** (width - bits) - 1 <= high
    ]


class RangesTest(unittest.TestCase):
    def test_the_examples(self):
        told = [
            prefixes_of(4, 3, 12), are_marks(4, 3, 12, (3, 4, 8, 12)), are_marks(4, 3, 12, (3, 4, 5)),
            prefixes_of(3, 0, 7),
        ]
        self.assertEqual(told, [((3, 4), (4, 2), (8, 2), (12, 4)), True, False, ((0, 0),)])
        self.assertEqual(spread((("range", 3),), ((((1, 3),), "a", ()),)),
            ((("prefix", 3),), ((((1, 3),), "a", ()), (((2, 2),), "a", ()))))

    def test_prefixes_of_all_short_ranges(self):
        for width in range(1, 6):
            for low, high in itertools.combinations_with_replacement(range(2 ** width), 2):
                within = all_prefixes(width, low, high)
                greatest = [one for one in within if not any(one != other and set(words_held(width, one)) <= set(
                    words_held(width, other)) for other in within)]
                found = prefixes_of(width, low, high)
                self.assertEqual(found, tuple(sorted(greatest)))
                self.assertEqual([word for one in found for word in words_held(width, one)], list(range(low, high + 1)))
                self.assertLessEqual(len(found), 2 * width - 2 if width > 1 else 1)

    def test_prefixes_at_the_bounds(self):
        self.assertEqual(prefixes_of(1, 0, 1), ((0, 0),))
        self.assertEqual([prefixes_of(1, 0, 0), prefixes_of(1, 1, 1)], [((0, 1),), ((1, 1),)])
        self.assertEqual([prefixes_of(2, 1, 2), prefixes_of(2, 0, 3)], [((1, 2), (2, 2)), ((0, 0),)])
        self.assertEqual([prefixes_of(32, 0, MOST), prefixes_of(32, 7, 7)], [((0, 0),), ((7, 32),)])
        self.assertEqual(prefixes_of(32, MOST, MOST), ((MOST, 32),))
        self.assertEqual(prefixes_of(high=MOST, low=1, width=32)[-2:], ((1 << 30, 2), (1 << 31, 1)))
        for width in range(2, 33):
            self.assertEqual(len(prefixes_of(width, 1, 2 ** width - 2)), 2 * width - 2)
            self.assertEqual(len(prefixes_of(width, 1, 2 ** width - 1)), width)

    def test_marks_of_all_short_ranges(self):
        for low, high in itertools.combinations_with_replacement(range(8), 2):
            within = all_prefixes(3, low, high)
            for many in range(5):
                for value in itertools.product(range(8), repeat=many):
                    right = list(value) == sorted(set(value)) and all(low <= mark <= high for mark in value)
                    held = [sum(mark in words_held(3, one) for mark in value) for one in within]
                    self.assertIs(are_marks(3, low, high, value), right and max(held) < 2, (low, high, value))

    def test_what_is_no_marks(self):
        for value in [[3, 4], (3, 3), (4, 3), (2, 3), (12, 13), (True,), (3, None), (3, "4"), ((3,),),
            (3, 4, 8, 12, 12),
            (3, 4, 5), (4, 7), (8, 11), 3, None, "34", (3, 4, 8, 9), (3, -1), (10 ** 399,), {3: 4}]:
            self.assertIs(are_marks(4, 3, 12, value), False, value)
        for value in [(), (3,), (12,), (5, 9), (3, 12), (7, 8), (3, 6, 10, 12)]:
            self.assertIs(are_marks(4, 3, 12, value), True, value)
        for value in JUNK:
            self.assertIs(are_marks(value=value, high=12, low=3, width=4), value == ())
        self.assertIs(are_marks(32, 0, MOST, (77,)), True)
        self.assertIs(are_marks(32, 0, MOST, (77, 4294967294)), False)
        marks = tuple(word for word, _ in prefixes_of(32, 1, MOST - 1))
        self.assertIs(are_marks(32, 1, MOST - 1, marks), True)
        self.assertIs(are_marks(32, 1, MOST - 1, marks + (MOST,)), False)

    def test_spread_tells_the_same(self):
        for seed in range(200):
            maker = Maker(seed)
            keys = maker.keys(8)
            entries = maker.entries(keys, 5)
            try:
                spread_keys, found = spread(keys, entries)
            except TooMany as error:
                self.assertGreater(error.given, 32)
                continue
            self.assertTrue(is_keys(spread_keys) and are_entries(spread_keys, found))
            self.assertEqual([width for _, width in spread_keys], [width for _, width in keys])
            self.assertNotIn("range", [kind for kind, _ in spread_keys])
            self.assertEqual(form_of(spread_keys, found), form_of(keys, entries))

    def test_several_ranges_go_the_first_one_slowest(self):
        keys = (("range", 3), ("exact", 2), ("range", 4))
        entries = ((((1, 2), 3, (7, 8)), "a", (5,)), (((0, 7), 1, (0, 0)), "b", ()))
        told = [
            (((1, 3), 3, (7, 4)), "a", (5,)), (((1, 3), 3, (8, 4)), "a", (5,)), (((2, 3), 3, (7, 4)), "a", (5,)),
            (((2, 3), 3, (8, 4)), "a", (5,)), (((0, 0), 1, (0, 4)), "b", ()),
        ]
        self.assertEqual(spread(keys, entries), ((("prefix", 3), ("exact", 2), ("prefix", 4)), tuple(told)))

    def test_no_range_at_all(self):
        self.assertEqual(spread(KEYS, THREE), (KEYS, THREE))
        self.assertEqual(spread((("range", 3), ("mask", 4)), ()), ((("prefix", 3), ("mask", 4)), ()))

    def test_32_and_33_entries(self):
        keys = (("range", 32),)
        one, many = (((1, MOST),), "a", ()), (((1, MOST - 1),), "a", ())
        self.assertEqual(len(spread(keys, (one,))[1]), 32)
        for entries, given in [((one, one[:1] + ("b", ())), 64), ((many,), 62), ((one, (((0, 0),), "b", ())), 33),
            ((many,) * 32, 1984)]:
            with self.assertRaises(TooMany) as caught:
                spread(keys, entries)
            self.assertEqual(caught.exception.given, given)
        with self.assertRaises(TooMany) as caught:
            spread((("range", 16),) * 3, ((((1, 65534),) * 3, "a", ()),) * 32)
        self.assertEqual(caught.exception.given, 32 * 30 ** 3)
        five = (("range", 5), ("range", 5))
        entries = ((((1, 30), (1, 15)), "a", ()),)
        self.assertEqual(len(spread(five, entries)[1]), 32)
        self.assertIs(parting(five, entries, entries), None)
        assert_raises(self, InvalidEntries, "index", 1, spread, keys, (many, None))

    def test_wrong_parameters(self):
        for call, behind in ((prefixes_of, ()), (are_marks, ((),))):
            for value in [0, 33, -1, True, None, "4", (4,), [4], 10 ** 399] + JUNK:
                assert_raises(self, InvalidNumber, "given", value, call, value, None, None, *behind)
            for value in [-1, 16, True, None, "3", (3,), 10 ** 399] + JUNK:
                assert_raises(self, InvalidWord, "given", value, call, 4, value, None, *behind)
                assert_raises(self, InvalidWord, "given", value, call, 4, 3, value, *behind)
            assert_raises(self, InvalidWord, "given", 2, call, 4, 3, 2, *behind)
            assert_raises(self, InvalidWord, "given", 0, call, 32, MOST, 0, *behind)
            assert_raises(self, InvalidWord, "given", 2, call, 1, 2, 1, *behind)
            # The first one is told, whatever the others are.
            assert_raises(self, InvalidWord, "given", 16, call, 4, 16, 17, *behind)
        for value in WRONG_KEYS + JUNK:
            assert_raises(self, InvalidKeys, "given", value, spread, value, None)
        for value, index in [(None, None), (list(THREE), None), (THREE + (None,), 3), (THREE * 11, None), ((1,), 0)]:
            assert_raises(self, InvalidEntries, "index", index, spread, entries=value, keys=KEYS)


if __name__ == "__main__":
    unittest.main()
