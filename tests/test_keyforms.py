"""Point 22: forms of what entries tell, and the least words that part two rows of entries."""

import itertools
import unittest

from switchstages.errors import InvalidEntries, InvalidForm, InvalidKeys, InvalidWords, TooMany
from switchstages.keyforms import form_of, form_tells, parting
from switchstages.tables import told_by
from tests.makers import Maker
from tests.samples import JUNK, WRONG_NAMES, assert_raises
from tests.test_tables import KEYS, THREE, WRONG_KEYS, all_words

TOLD = ("told", "a", ())
OTHER = ("told", "b", (1,))
FORM = ("bit", 0, ("bit", 3, None, OTHER), TOLD)
ALL = (((0, 0), (0, 0)), "a", ())


def plain_form(keys, entries):
    """The form, from behind: the words of both halves of a bit, told one by one."""
    level = [None if told is None else ("told", *told) for told in
        [told_by(keys, entries, words) for words in all_words(keys)]]
    for bit in reversed(range(sum(width for _, width in keys))):
        level = [no if no == yes else ("bit", bit, no, yes) for no, yes in zip(level[::2], level[1::2])]
    return level[0]


def plain_parting(keys, entries, others):
    """The least words, one by one."""
    for words in all_words(keys):
        if told_by(keys, entries, words) != told_by(keys, others, words):
            return words
    return None


def forms_over(bits, first=0):
    """Some forms over these bits, and values that are nearly some."""
    wrong = [
        ("bit", first, None, None), ("bit", first, TOLD, TOLD), ("bit", bits, None, TOLD), ("bit", -1, None, TOLD),
        ("bit", True, None, TOLD), ("bit", None, None, TOLD), ("bit", "0", None, TOLD), ("bit", first, None),
        ("bit", first, None, TOLD, None), ["bit", first, None, TOLD], ("Bit", first, None, TOLD), ("bit",),
        (first, None, TOLD), ("bit", first, ("bit", first, None, TOLD), TOLD), ("bit", first, (), TOLD),
        ("bit", first, TOLD, ("bit", first, None, TOLD)), ("bit", first, TOLD, ["told", "a", ()]),
        ("told", "a"), ("told", "a", (), ()), ("told", "a", []), ("told", "a", (1,) * 5), ("told", "a", (True,)),
        ("told", "a", (4294967296,)), ("told", "a", (-1,)), ("told", "a", None), ("told", "a", 1),
        ("told", (), "a"), ["told", "a", ()], ("told",), ("tell", "a", ()), (None, None, TOLD), "told", "bit", (None,),
        ("told", "a", ((1,),)), (("told",), "a", ()), ("bit", first, ("told", "a", (True,)), ("told", "a", (1,))),
    ]
    return wrong + [("told", name, ()) for name in WRONG_NAMES]


class KeyFormsTest(unittest.TestCase):
    def test_the_example(self):
        form = form_of(KEYS, THREE)
        told = [form, form_tells(KEYS, form, (1, 3)), parting(KEYS, THREE, THREE[:2]), parting(KEYS, THREE, THREE[:1])]
        self.assertEqual(told, [FORM, ("b", (1,)), None, (0, 2)])

    def test_forms_tell_what_entries_tell(self):
        for seed in range(300):
            maker = Maker(seed)
            keys = maker.keys(7)
            entries = maker.entries(keys, 6)
            form = form_of(keys, entries)
            self.assertEqual(form, plain_form(keys, entries))
            for words in all_words(keys):
                self.assertEqual(form_tells(keys, form, words), told_by(keys, entries, words))

    def test_no_entries_and_one_for_all_words(self):
        self.assertIs(form_of(KEYS, ()), None)
        self.assertIs(form_tells(KEYS, None, (7, 3)), None)
        self.assertEqual(form_of(KEYS, (ALL,)), TOLD)
        self.assertEqual(form_of(KEYS, (ALL,) + THREE), TOLD)
        self.assertEqual(form_tells(KEYS, TOLD, (7, 3)), ("a", ()))
        self.assertEqual(form_of((("exact", 1),), (((0,), "a", ()), ((1,), "a", ()))), TOLD)

    def test_twelve_and_thirteen_bits(self):
        for keys in [(("exact", 12),), (("mask", 5), ("range", 7)), (("prefix", 4), ("exact", 4), ("range", 4))]:
            self.assertIs(form_of(keys, ()), None)
        for keys in [(("exact", 13),), (("mask", 5), ("range", 8)), (("prefix", 4), ("exact", 4), ("range", 5))]:
            with self.assertRaises(TooMany) as caught:
                form_of(keys, ())
            self.assertEqual(caught.exception.given, 13)
        with self.assertRaises(TooMany) as caught:
            form_of((("exact", 32), ("mask", 16)), ())
        self.assertEqual(caught.exception.given, 48)
        # How many there are is told last.
        assert_raises(self, InvalidEntries, "index", None, form_of, (("exact", 13),), None)
        assert_raises(self, InvalidEntries, "index", 0, form_of, (("exact", 13),), (None,))

    def test_a_form_that_asks_each_of_twelve_bits(self):
        keys = (("mask", 12),)
        # Told by how the bits 1 of a word end: each bit is asked.
        entries = tuple((((1 << at, (2 << at) - 1),), "a", (at,)) for at in range(12))
        form = form_of(keys, entries)
        self.assertEqual(form, plain_form(keys, entries))
        for word in (0, 1, 2, 8, 2048, 4095, 3072):
            told = ("a", (((word & -word).bit_length() - 1),)) if word else None
            self.assertEqual(form_tells(keys, form, (word,)), told)

    def test_entries_in_another_order_that_tell_the_same(self):
        keys = (("range", 4), ("exact", 2))
        one = ((((1, 5), 2), "a", ()), (((7, 9), 2), "b", ()), (((0, 15), 1), "c", ()))
        for others in itertools.permutations(one):
            self.assertEqual(form_of(keys, one), form_of(keys, others))
            self.assertIs(parting(keys, one, others), None)
        spread = ((((1, 3), 2), "a", ()), (((4, 5), 2), "a", ())) + one[1:]
        self.assertEqual(form_of(keys, one), form_of(keys, spread))
        self.assertIs(parting(keys, spread, one), None)

    def test_forms_that_are_none(self):
        for value in forms_over(5) + JUNK[1:]:
            assert_raises(self, InvalidForm, "given", value, form_tells, KEYS, value, (1, 3))
            if value != []:
                inner = ("bit", 1, TOLD, value)
                if value not in (TOLD,):
                    assert_raises(self, InvalidForm, "given", inner, form_tells, KEYS, inner, (1, 3))

    def test_bits_that_the_keys_have_not_or_too_early(self):
        for bit in (0, 4):
            self.assertEqual(form_tells(KEYS, ("bit", bit, TOLD, None), (0, 0)), ("a", ()))
        for form in [("bit", 5, None, TOLD), ("bit", 3, None, ("bit", 2, None, TOLD)),
            ("bit", 3, ("bit", 3, None, TOLD), TOLD), ("bit", 1, None, ("bit", 2, None, ("bit", 0, None, TOLD)))]:
            assert_raises(self, InvalidForm, "given", form, form_tells, KEYS, form, (0, 0))
        keys = (("exact", 32), ("range", 16))
        self.assertEqual(form_tells(keys, ("bit", 47, None, TOLD), (0, 1)), ("a", ()))
        self.assertEqual(form_tells(keys, ("bit", 31, None, ("bit", 32, TOLD, OTHER)), (1, 32768)), ("b", (1,)))

    def test_any_form_is_told_bit_by_bit(self):
        form = ("bit", 1, ("bit", 2, TOLD, ("bit", 4, OTHER, None)), None)
        for words in all_words(KEYS):
            bits = f"{words[0]:03b}{words[1]:02b}"
            told = None
            if bits[1] == "0":
                told = ("a", ()) if bits[2] == "0" else (("b", (1,)) if bits[4] == "0" else None)
            self.assertEqual(form_tells(KEYS, form, words), told)
        deep = None
        for bit in reversed(range(20)):
            deep = ("bit", bit, deep, TOLD)
        keys = (("exact", 20),)
        self.assertEqual([form_tells(keys, deep, (word,)) for word in (0, 1, 1 << 19)], [None, ("a", ()), ("a", ())])

    def test_partings_of_short_keys(self):
        for seed in range(500):
            maker = Maker(seed)
            keys = maker.keys(7)
            entries = maker.entries(keys, 7)
            others = maker.entries(keys, 7) if seed % 3 else tuple(one for one in entries if maker.upto(4))
            if seed % 3 == 1:
                others = tuple(maker.chance.sample(entries, len(entries)))
            words = plain_parting(keys, entries, others)
            self.assertEqual(parting(keys, entries, others), words, (keys, entries, others))
            self.assertEqual(parting(keys, others, entries), words)
            self.assertEqual(form_of(keys, entries) == form_of(keys, others), words is None)

    def test_partings_of_wide_keys(self):
        keys = (("range", 32), ("mask", 16))
        most, whole = 4294967295, (0, 0)
        first = ((((5, most), whole), "a", ()),)
        self.assertEqual(parting(keys, first, ()), (5, 0))
        self.assertEqual(parting(keys, (), first), (5, 0))
        self.assertEqual(parting(keys, first, ((((5, most - 1), whole), "a", ()),)), (most, 0))
        self.assertEqual(parting(keys, first, ((((5, most), (0, 1)), "a", ()), (((6, most), (1, 1)), "a", ()))), (5, 1))
        halves = ((((5, 99999), whole), "a", ()), (((100000, most), (0, 512)), "a", ()), (((7, most), (512, 512)), "a",
            ()))
        self.assertIs(parting(keys, first, halves), None)
        self.assertEqual(parting(keys, first, halves[:2]), (100000, 512))
        self.assertEqual(parting(keys, halves[1:], first), (5, 0))
        # Told otherwise by the last words alone.
        told = ((((most, most), (65535, 65535)), "b", ()),)
        self.assertEqual(parting(keys, told + first, first), (most, 65535))
        self.assertEqual(parting(keys, (((((0, most), whole), "a", (1,)),)), (((((0, most), whole), "a", (2,)),))), (0,
            0))

    def test_wide_keys_that_masks_part_in_many_ways(self):
        keys = (("mask", 32), ("mask", 16))
        pairs = [((1 << at | 1 << at + 16, 1 << at | 1 << at + 16), (0, 0)) for at in range(16)]
        pairs += [((0, 0), (1 << at | 1 << at + 8, 1 << at | 1 << at + 8)) for at in range(8)]
        one = tuple((pair, "a", ()) for pair in pairs)
        self.assertIs(parting(keys, one, one[::-1]), None)
        self.assertIs(parting(keys, one, one[5:] + one[:5] + one[3:8]), None)
        self.assertEqual(parting(keys, one, one[1:]), (65537, 0))
        self.assertEqual(parting(keys, one[:-1], one), (0, 32896))

    def test_made_partings_of_wide_keys_are_so(self):
        found = 0
        for seed in range(150):
            maker = Maker(seed)
            keys = maker.keys(48)
            entries = maker.entries(keys, 20)
            others = tuple(one for one in entries if maker.upto(5))
            words = parting(keys, entries, others)
            if words is not None:
                found += 1
                self.assertNotEqual(told_by(keys, entries, words), told_by(keys, others, words))
                # A word less in the last key, or at its most behind a word less in one ahead, is told alike.
                for at in range(len(keys)):
                    if words[at] > 0:
                        less = words[:at] + (words[at] - 1,) + tuple(2 ** width - 1 for _, width in keys[at + 1:])
                        self.assertEqual(told_by(keys, entries, less), told_by(keys, others, less))
        self.assertGreater(found, 30)

    def test_wrong_parameters(self):
        for value in WRONG_KEYS + JUNK:
            assert_raises(self, InvalidKeys, "given", value, form_of, value, None)
            assert_raises(self, InvalidKeys, "given", value, form_tells, value, 1, None)
            assert_raises(self, InvalidKeys, "given", value, parting, others=None, entries=None, keys=value)
        for value in [value for value in JUNK if value != ()]:
            index = 0 if isinstance(value, tuple) else None
            assert_raises(self, InvalidEntries, "index", index, form_of, KEYS, value)
            assert_raises(self, InvalidEntries, "index", index, parting, KEYS, value, None)
            assert_raises(self, InvalidEntries, "index", index, parting, KEYS, THREE, value)
        for value, index in [(list(THREE), None), (THREE + (None,), 3), (THREE[:1] + (THREE[1][:2],), 1),
            (THREE * 11, None), (((((4, 0), (0, 0)), "a", ()),), 0), (((((True, 3), (0, 0)), "a", ()),), 0)]:
            assert_raises(self, InvalidEntries, "index", index, form_of, KEYS, value)
            assert_raises(self, InvalidEntries, "index", index, parting, KEYS, value, THREE)
            assert_raises(self, InvalidEntries, "index", index, parting, KEYS, entries=THREE, others=value)
        self.assertIs(parting(KEYS, THREE * 10, THREE), None)
        for value, index in [(None, None), ([1, 3], None), ((1,), None), ((1, 3, 0), None), ((8, 3), 0), ((1, 4), 1),
            ((True, 3), 0), ((1, None), 1), ((-1, 4), 0), ("13", None), ((1, (3,)), 1), (("1", 3), 0)]:
            assert_raises(self, InvalidWords, "index", index, form_tells, KEYS, FORM, value)
        assert_raises(self, InvalidForm, "given", 0, form_tells, KEYS, 0, None)


if __name__ == "__main__":
    unittest.main()
