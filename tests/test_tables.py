"""Points 20 and 21: keys, entries, which entry is hit, what entries tell, and idle entries."""

import itertools
import unittest

from switchstages.errors import InvalidEntries, InvalidKeys, InvalidWords
from switchstages.tables import are_entries, hit_by, idle_in, is_keys, told_by, without_idle
from tests.makers import Maker
from tests.plainly import key_hit
from tests.samples import JUNK, RIGHT_NAMES, WRONG_NAMES, assert_raises

KEYS = (("prefix", 3), ("mask", 2))
THREE = ((((4, 1), (0, 0)), "a", ()), (((0, 0), (2, 2)), "b", (1,)), (((6, 2), (1, 1)), "c", ()))
ONE = ((4, 1), (0, 0))
KINDS = ("exact", "prefix", "mask", "range")
WRONG_KEYS = [
    (), (("exact", 1),) * 4, (("exact", 0),), (("exact", 33),), (("exact", -1),), (("exact", True),),
    (("exact", None),), (("exact", "8"),), (("exact", (8,)),), (("Exact", 8),), (("any", 8),), ((None, 8),),
    ((8, "exact"),), (("exact",),), (("exact", 8, 8),), (["exact", 8],), [("exact", 8)], ("exact", 8),
    (("exact", 8), None), ((("exact",), 8),), None, (("exact", 32), ("mask", 17)),
    (("exact", 17), ("mask", 16), ("range", 16)), (("exact", 32), ("mask", 16), ("range", 1)),
    (("exact", 32), ("mask", 32)), {"exact": 8}, "exact", (["exact"], 8), (("", 8),), (("exact", 10 ** 399),),
    ((b"exact", 8),),
]
RIGHT_SOUGHT = {
    "exact": [0, 1, 7], "prefix": [(0, 0), (0, 3), (7, 3), (4, 1), (6, 2), (0, 1)],
    "mask": [(0, 0), (0, 7), (7, 7), (5, 5), (1, 5)],
    "range": [(0, 0), (0, 7), (7, 7), (3, 4)],
}
WRONG_PAIRS = [
    (0,), (0, 0, 0), [0, 0], 0, None, (None, 0), (0, None), (True, 1), (1, True), ("0", 0), (0, "0"), ((0,), 0),
    (-1, 0), (0, -1), (8, 8), (0, 8), (8, 3), (0, 10 ** 399), {}, "00", (0, (0,)),
]
WRONG_SOUGHT = {
    "exact": [-1, 8, True, False, None, "1", (1,), [1], (0, 0), 10 ** 399, {}],
    "prefix": WRONG_PAIRS + [(1, 0), (4, 0), (2, 1), (5, 2), (7, 2), (0, 4)],
    "mask": WRONG_PAIRS + [(1, 0), (4, 3), (7, 6), (2, 1)],
    "range": WRONG_PAIRS + [(1, 0), (7, 6), (7, 0)],
}


def all_words(keys):
    return itertools.product(*[range(2 ** width) for _, width in keys])


def plain_hit(keys, entries, words):
    """The index of the entry that is looked up, told by texts of bits."""
    for index, (sought, _, _) in enumerate(entries):
        if all(key_hit(kind, width, part, word) for (kind, width), part, word in zip(keys, sought, words)):
            return index
    return None


def cut(keys, many):
    """Entries that part the words of the first key into many ranges, each told by what its kind seeks."""
    kind, width = keys[0]
    step = 2 ** width // many
    bits = width - (step.bit_length() - 1)
    for at in range(many):
        low = at * step
        mask = 2 ** width - step
        yield {"exact": low, "prefix": (low, bits), "mask": (low, mask), "range": (low, low + step - 1)}[kind]


class TablesTest(unittest.TestCase):
    def test_the_example(self):
        told = [
            is_keys(KEYS), is_keys((("exact", 33),)), are_entries(KEYS, THREE),
            are_entries(KEYS, ((((4, 0), (0, 0)), "a", ()),)), hit_by(KEYS, THREE, (5, 0)), hit_by(KEYS, THREE, (1, 3)),
            hit_by(KEYS, THREE, (1, 1)),
        ]
        self.assertEqual(told, [True, False, True, False, 0, 1, None])
        told = [told_by(KEYS, THREE, (1, 3)), idle_in(KEYS, THREE), without_idle(KEYS, THREE) == THREE[:2]]
        self.assertEqual(told, [("b", (1,)), (2,), True])

    def test_keys(self):
        for kind in KINDS:
            for widths in [(1,), (32,), (16, 16, 16), (32, 16), (1, 1, 1), (15, 32, 1)]:
                self.assertIs(is_keys(tuple((kind, width) for width in widths)), True)
        self.assertIs(is_keys(value=(("exact", 1), ("exact", 1))), True)
        for value in WRONG_KEYS + JUNK:
            self.assertIs(is_keys(value), False, value)

    def test_what_entries_seek(self):
        for kind in KINDS:
            keys = ((kind, 3),)
            for part in RIGHT_SOUGHT[kind]:
                self.assertIs(are_entries(keys, (((part,), "a", ()),)), True)
            for part in WRONG_SOUGHT[kind] + JUNK:
                self.assertIs(are_entries(keys, (((part,), "a", ()),)), False, (kind, part))
            for sought in [(), RIGHT_SOUGHT[kind][:1] * 2, tuple(RIGHT_SOUGHT[kind][:1]) * 2, [RIGHT_SOUGHT[kind][0]],
                None, 1]:
                self.assertIs(are_entries(keys, ((sought, "a", ()),)), False)

    def test_actions_and_args(self):
        for name in RIGHT_NAMES:
            self.assertIs(are_entries(KEYS, ((ONE, name, (4294967295, 0)),)), True)
        for name in WRONG_NAMES:
            self.assertIs(are_entries(KEYS, ((ONE, name, ()),)), False)
        for args in [(), (0,), (1, 2, 3, 4), (4294967295,) * 4]:
            self.assertIs(are_entries(KEYS, ((ONE, "a", args),)), True)
        for args in [(0,) * 5, (4294967296,), (-1,), (True,), [0], None, 0, ("0",), ((0,),), (0, None), {}, "",
            (10 ** 399,)]:
            self.assertIs(are_entries(KEYS, ((ONE, "a", args),)), False)

    def test_up_to_32_entries(self):
        told = [are_entries(KEYS, THREE[:1] * many) for many in (0, 1, 32, 33, 40)]
        self.assertEqual(told, [True, True, True, False, False])
        wrong = [value for value in JUNK if value != ()] + [
            THREE[0], list(THREE), (list(THREE[0]),), (THREE[0][:2],), (THREE[0] + ((),),), ((ONE, "a"),),
            ((ONE, (), "a"),), THREE + (None,), {0: THREE[0]}, ((("a",), ONE, ()),),
        ]
        for value in wrong:
            self.assertIs(are_entries(value=value, keys=KEYS), False, value)

    def test_which_words_hit(self):
        for kind in KINDS:
            for width in (1, 3, 6):
                maker = Maker(width)
                for _ in range(60):
                    part = maker.sought(kind, width)
                    keys, entries = ((kind, width),), (((part,), "a", ()),)
                    for word in range(2 ** width):
                        hit = key_hit(kind, width, part, word)
                        self.assertEqual(hit_by(keys, entries, (word,)), 0 if hit else None, (kind, part, word))

    def test_words_of_32_bits(self):
        most = 4294967295
        for kind, part, hits, misses in [
            ("exact", most, [most], [0, most - 1]), ("exact", 0, [0], [1, most]),
            ("prefix", (2147483648, 1), [2147483648, most], [0, 2147483647]), ("prefix", (0, 0), [0, 77, most], []),
            ("prefix", (most, 32), [most], [most - 1, 0]), ("prefix", (most - 1, 31), [most, most - 1], [most - 2]),
            ("mask", (0, 0), [0, most], []), ("mask", (most, most), [most], [most - 1]),
            ("mask", (1, 1), [1, most], [0, most - 1]), ("mask", (0, 2147483649), [2, 2147483646], [1, 2147483648]),
            ("range", (0, most), [0, 5, most], []), ("range", (7, 7), [7], [6, 8]),
            ("range", (most, most), [most], [0, most - 1]), ("range", (1, 3), [1, 2, 3], [0, 4]),
        ]:
            keys, entries = ((kind, 32), ("mask", 16)), (((part, (0, 0)), "a", (1,)),)
            for word in hits:
                self.assertEqual((hit_by(keys, entries, (word, 9)), told_by(keys, entries, (word, 9))),
                    (0, ("a", (1,))))
            for word in misses:
                self.assertEqual((hit_by(keys, entries, (word, 9)), told_by(keys, entries, (word, 9))), (None, None))

    def test_the_first_entry_counts_and_all_keys_have_to_be_hit(self):
        keys = (("exact", 2), ("range", 2), ("prefix", 2))
        entries = (
            ((1, (0, 2), (0, 0)), "a", ()), ((1, (1, 3), (2, 1)), "b", (5,)), ((1, (0, 3), (0, 0)), "a", (6,)),
            ((2, (3, 3), (3, 2)), "c", ()),
        )
        for words, told in [
            ((1, 0, 0), 0), ((1, 2, 3), 0), ((1, 3, 2), 1), ((1, 3, 1), 2), ((2, 3, 3), 3), ((2, 2, 3), None),
            ((0, 0, 0), None), ((2, 3, 2), None), ((3, 3, 3), None),
        ]:
            self.assertEqual(hit_by(words=words, entries=entries, keys=keys), told)
            self.assertEqual(told_by(words=words, entries=entries, keys=keys),
                None if told is None else entries[told][1:])

    def test_no_entries(self):
        self.assertEqual([hit_by(KEYS, (), (0, 0)), told_by(KEYS, (), (0, 0))], [None, None])
        self.assertEqual([idle_in(KEYS, ()), without_idle(KEYS, ())], [(), ()])


class IdleTest(unittest.TestCase):
    def idle(self, keys, parts, expected):
        entries = tuple((tuple(sought), "a", (at,)) for at, sought in enumerate(parts))
        self.assertIs(are_entries(keys, entries), True)
        self.assertEqual(idle_in(keys, entries), tuple(expected), (keys, parts))
        stay = tuple(entry for at, entry in enumerate(entries) if at not in expected)
        self.assertEqual(without_idle(entries=entries, keys=keys), stay)
        self.assertEqual(idle_in(entries=stay, keys=keys), ())

    def test_idle_because_of_one_other(self):
        for kind, big, small in [
            ("exact", 5, 5), ("prefix", (0, 0), (7, 3)), ("prefix", (4, 1), (6, 2)), ("prefix", (4, 1), (4, 1)),
            ("mask", (0, 0), (5, 7)), ("mask", (1, 1), (5, 5)), ("mask", (5, 7), (5, 7)), ("range", (0, 7), (3, 3)),
            ("range", (2, 5), (2, 5)), ("range", (2, 5), (3, 5)),
        ]:
            keys = ((kind, 3),)
            self.idle(keys, [(big,), (small,)], [1])
            self.idle(keys, [(small,), (big,)], [] if big != small else [1])
            for other in KINDS:
                part = RIGHT_SOUGHT[other][0]
                self.idle(((kind, 3), (other, 3)), [(big, part), (small, part)], [1])
                self.idle(((other, 3), (kind, 3)), [(part, big), (part, small)], [1])

    def test_idle_because_of_two_or_many_together(self):
        for kind, whole in [("prefix", (0, 0)), ("mask", (0, 0)), ("range", (0, 255))]:
            for many in (2, 4, 16):
                keys = ((kind, 8),)
                parts = [(part,) for part in cut(keys, many)]
                self.idle(keys, parts + [(whole,)], [many])
                for at in range(many):
                    self.idle(keys, parts[:at] + parts[at + 1:] + [(whole,)], [])
                    self.idle(keys, parts[:at] + parts[at + 1:] + [(whole,), parts[at]], [many])
        keys = (("exact", 4),)
        self.idle(keys, [(at,) for at in range(16)] * 2, range(16, 32))

    def test_idle_because_of_31_others_together_on_48_bits(self):
        for kinds in itertools.product(("prefix", "mask", "range"), repeat=2):
            keys = ((kinds[0], 32), (kinds[1], 16))
            every = {"prefix": (0, 0), "mask": (0, 0)}
            wide = [every.get(kind, (0, 2 ** width - 1)) for kind, width in keys]
            # Sixteenths of the first key; one of them once more in sixteenths of the second key.
            parts = [(part, wide[1]) for part in cut(keys, 16)]
            last = parts.pop()[0]
            parts += [(last, part) for part in cut(keys[1:], 16)]
            self.idle(keys, parts + [wide], [31])
            for at in (0, 14, 15, 30):
                self.idle(keys, parts[:at] + parts[at + 1:] + [wide], [])
                self.idle(keys, parts[:at] + parts[at + 1:] + [wide, parts[at]], [31])

    def test_all_but_one_word_of_48_bits(self):
        for hole in (0, 1, 2 ** 48 - 1, 0xABCDE0123456 >> 4):
            keys = (("mask", 32), ("mask", 16))
            word, rest = hole >> 16, hole & 65535
            # One entry for each of the first 31 bits that is not as in the hole; 17 bits are left.
            parts = [(((word ^ 1 << at) & 1 << at, 1 << at), (0, 0)) for at in range(31)]
            self.idle(keys, parts + [((word, 2 ** 32 - 1), (rest, 65535))], [])
            self.idle(keys, parts[:30] + [((0, 0), (0, 0)), ((word, 2 ** 32 - 1), (rest, 65535))], [31])

    def test_idle_ones_among_many_overlapping_ones(self):
        keys = (("range", 16), ("range", 16), ("range", 16))
        full = (0, 65535)
        # For each key ten ranges that part all of its words: where those of one key stand, all others are idle.
        ranges = [(at * 6553, 65535 if at == 9 else at * 6553 + 6552) for at in range(10)]
        slabs = [(full,) * axis + (part,) + (full,) * (2 - axis) for part in ranges for axis in range(3)]
        self.idle(keys, slabs, [28, 29])
        self.idle(keys, slabs[:27] + slabs[28:] + [(full,) * 3], [28, 29])
        self.idle(keys, slabs[:27] + [(full,) * 3], [])
        without = [slab for at, slab in enumerate(slabs) if at not in (12, 16, 20)]
        self.idle(keys, without + [((26212, 26213), (32765, 32766), (39318, 39319))], [])
        self.idle(keys, without + [((26212, 26213), (32765, 32766), (0, 1))], [27])

    def test_bits_that_hang_on_one_another(self):
        # Odd and even numbers of ones among three bits, told by masks: together all words.
        keys = (("mask", 4),)
        odd = [(word, 7) for word in range(8) if bin(word).count("1") % 2 == 1]
        even = [(word, 7) for word in range(8) if bin(word).count("1") % 2 == 0]
        self.idle(keys, [(part,) for part in odd + even + [(0, 0)]], [8])
        self.idle(keys, [(part,) for part in odd + even[:3] + [(0, 0)]], [])
        # Pairs of neighbours that differ: what stays is all 0 or all 1.
        keys = (("mask", 32),)
        steps = [((1 << at, 3 << at),) for at in range(30)]
        self.idle(keys, steps[:28] + [((2 << 28, 3 << 28),), ((0, 1),), ((1, 1),)], [])
        chain = [((2 << at, 3 << at),) for at in range(29)]
        self.idle(keys, chain + [((1, 1 << 0),), ((0, 1 << 29),), ((1 << 29, (1 << 29) + 1),)], [31])

    def test_duplicates(self):
        self.idle(KEYS, [entry[0] for entry in THREE] * 2, [2, 3, 4, 5])
        self.idle((("exact", 32),), [(4294967295,)] * 32, range(1, 32))

    def test_many_entries_against_all_words(self):
        idle = 0
        for seed in range(300):
            maker = Maker(seed)
            keys = maker.keys(9)
            entries = maker.entries(keys, 14)
            self.assertIs(are_entries(keys, entries), True)
            used = set()
            for words in all_words(keys):
                index = plain_hit(keys, entries, words)
                self.assertEqual(hit_by(keys, entries, words), index)
                used.add(index)
            self.assertEqual(idle_in(keys, entries), tuple(at for at in range(len(entries)) if at not in used))
            idle += len(idle_in(keys, entries))
        self.assertGreater(idle, 300)

    def test_entries_without_idle_ones_tell_the_same(self):
        changed = 0
        for seed in range(300, 450):
            maker = Maker(seed)
            keys = maker.keys(8)
            entries = maker.entries(keys, 10)
            stay = without_idle(keys, entries)
            self.assertIsInstance(stay, tuple)
            self.assertEqual(idle_in(keys, stay), ())
            for words in all_words(keys):
                self.assertEqual(told_by(keys, stay, words), told_by(keys, entries, words))
            left = list(entries)
            for at in reversed(range(len(entries))):
                if at in idle_in(keys, tuple(left)):
                    del left[at]
            self.assertEqual(tuple(left), stay)
            changed += stay != entries
        self.assertGreater(changed, 50)


class WrongArgumentsTest(unittest.TestCase):
    def test_wrong_keys_are_told(self):
        for value in WRONG_KEYS + JUNK:
            assert_raises(self, InvalidKeys, "given", value, are_entries, value, ())
            assert_raises(self, InvalidKeys, "given", value, hit_by, value, (), ())
            assert_raises(self, InvalidKeys, "given", value, told_by, value, (), ())
            assert_raises(self, InvalidKeys, "given", value, idle_in, value, ())
            assert_raises(self, InvalidKeys, "given", value, without_idle, value, ())

    def told(self, index, entries):
        assert_raises(self, InvalidEntries, "index", index, hit_by, KEYS, entries, (0, 0))
        assert_raises(self, InvalidEntries, "index", index, told_by, words=(0, 0), entries=entries, keys=KEYS)
        assert_raises(self, InvalidEntries, "index", index, idle_in, KEYS, entries)
        assert_raises(self, InvalidEntries, "index", index, without_idle, entries=entries, keys=KEYS)

    def test_wrong_entries_are_told(self):
        for value in JUNK + [list(THREE), {0: THREE[0]}, THREE[:1] * 33]:
            if value != ():
                self.told(0 if isinstance(value, tuple) and len(value) < 33 else None, value)
        for value in JUNK + [
            THREE[0][:2], THREE[0] + ((),), list(THREE[0]), (ONE, "in", ()), (ONE, "a", (0,) * 5), (ONE, "a", [0]),
            (ONE[:1], "a", ()), (ONE + ONE[:1], "a", ()), (((4, 0), (0, 0)), "a", ()), (((4, 1), (1, 0)), "a", ()),
            (ONE, "a", (4294967296,)),
        ]:
            self.told(0, (value,) + THREE)
            self.told(3, THREE + (value, value))
            self.told(31, THREE[:1] * 31 + (value,))

    def test_wrong_words_are_told(self):
        for call in (hit_by, told_by):
            for value in JUNK + [(), (1,), (1, 2, 3), [1, 2], {1: 2}]:
                index = 0 if isinstance(value, tuple) and len(value) == 2 else None
                assert_raises(self, InvalidWords, "index", index, call, KEYS, THREE, value)
            for value in JUNK + [8, -1, True, False, None, "1", (1,), 10 ** 399]:
                assert_raises(self, InvalidWords, "index", 0, call, KEYS, THREE, (value, 4))
            for value in JUNK + [4, -1, True, False, None, "1", (1,), 10 ** 399]:
                assert_raises(self, InvalidWords, "index", 1, call, KEYS, THREE, (7, value))
            self.assertIsNotNone(call(KEYS, THREE, (7, 3)))

    def test_the_first_wrong_parameter_is_told(self):
        assert_raises(self, InvalidKeys, "given", 1, are_entries, value=2, keys=1)
        for call in (hit_by, told_by):
            assert_raises(self, InvalidKeys, "given", 1, call, 1, 2, 3)
            assert_raises(self, InvalidKeys, "given", 1, call, words=3, entries=2, keys=1)
            assert_raises(self, InvalidEntries, "index", None, call, KEYS, 2, 3)
            assert_raises(self, InvalidEntries, "index", 1, call, words=3, entries=THREE[:1] + (2,), keys=KEYS)
            assert_raises(self, InvalidWords, "index", None, call, words=3, entries=THREE, keys=KEYS)
        for call in (idle_in, without_idle):
            assert_raises(self, InvalidKeys, "given", 1, call, 1, 2)
            assert_raises(self, InvalidKeys, "given", 1, call, entries=2, keys=1)
            assert_raises(self, InvalidEntries, "index", None, call, KEYS, 2)

    def test_equal_calls_return_equal_results(self):
        other = tuple([tuple(list(entry)) for entry in THREE])
        for call in (idle_in, without_idle):
            self.assertEqual(call(KEYS, THREE), call(tuple(list(KEYS)), other))
        self.assertIsInstance(idle_in(KEYS, THREE), tuple)
        self.assertIsInstance(told_by(KEYS, THREE, (1, 3)), tuple)


if __name__ == "__main__":
    unittest.main()
