"""Points 7 and 9: headers, packets, and how a header's bytes are read and written."""

import unittest

from switchstages.errors import InvalidFields, InvalidHeaders, InvalidNumber, InvalidRest
from switchstages.headers import are_headers, is_packet, read_header, size_of, write_header
from tests.samples import HEADERS, JUNK, RIGHT_NAMES, WIDEST, WRONG_NAMES, assert_raises

EIGHT = (("kind", 8),)
WRONG_WIDTHS = [0, 33, 64, -1, -8, True, False, None, "8", (8,), [8], 10 ** 399]
WRONG_HEADER_FIELDS = [
    (), (("a", 7),), (("a", 4), ("b", 5)), (("a", 1),), (("a", 8), ("a", 8)), (("a", 4), ("b", 8), ("a", 4)),
    (("a", 32), ("b", 32), ("c", 32), ("d", 32), ("e", 8)), tuple(("f" + str(at), 8) for at in range(13)),
    tuple(("f" + str(at), 16) for at in range(9)), [("a", 8)], (["a", 8],), (("a",),), (("a", 8, 8),), ((8, "a"),),
    (("a", 8), None), (("a", 8), ()), ("a", 8), {"a": 8}, "a8", (("a", (8,)),), (("a", 8), ("b", 0)),
]


def wrong_headers():
    """Values that are no headers, the parts that are wrong at every depth and place."""
    found = [value for value in JUNK]
    found += [((name, EIGHT),) for name in WRONG_NAMES] + [(("h", ((name, 8),)),) for name in WRONG_NAMES]
    found += [(("h", (("a", width),)),) for width in WRONG_WIDTHS]
    found += [(("h", (("a", 7), ("b", width))),) for width in WRONG_WIDTHS]
    found += [(("h", fields),) for fields in WRONG_HEADER_FIELDS + JUNK]
    found += [HEADERS + (("h", fields),) for fields in WRONG_HEADER_FIELDS + JUNK]
    found += [(part,) for part in JUNK] + [HEADERS + (part,) for part in JUNK + [()]]
    found += [
        list(HEADERS), (["h", EIGHT],), (("h", EIGHT, 1),), (("h",),), ((EIGHT, "h"),), ("h", EIGHT), HEADERS[0],
        HEADERS + HEADERS[:1], (("h", EIGHT), ("g", EIGHT), ("h", (("b", 16),))),
        tuple(("h" + str(at), EIGHT) for at in range(7)), dict(HEADERS),
    ]
    return found


class HeadersTest(unittest.TestCase):
    def test_the_example(self):
        headers = (("base", (("kind", 8),)), ("tag", (("mark", 3), ("next", 5))))
        told = [
            are_headers(headers), are_headers((("odd", (("bit", 1),)),)), size_of(headers, 1),
            read_header(headers, 1, (35,)), write_header(headers, 1, (1, 3)), is_packet((1, (7, 35, 9))),
        ]
        self.assertEqual(told, [True, False, 1, (1, 3), (35,), True])

    def test_right_headers(self):
        right = [
            (), HEADERS, WIDEST, (("h", (("a", 32), ("b", 32), ("c", 32), ("d", 32))),), (("h", (("h", 8),)),),
            (("h", tuple(("f" + str(at), 1) for at in range(8))),), (("h", (("a", 31), ("b", 1))),),
            (("a", EIGHT), ("b", EIGHT)), (("h", (("a", 32), ("b", 31), ("c", 30), ("d", 29), ("e", 6))),),
        ]
        for value in right:
            self.assertIs(are_headers(value), True, value)
        for name in RIGHT_NAMES:
            self.assertIs(are_headers(((name, ((name, 16),)),)), True, name)

    def test_wrong_headers(self):
        for value in wrong_headers():
            self.assertIs(are_headers(value), False, value)

    def test_wrong_headers_are_told(self):
        for value in wrong_headers():
            assert_raises(self, InvalidHeaders, "given", value, size_of, value, 0)
            assert_raises(self, InvalidHeaders, "given", value, read_header, value, 0, (1,))
            assert_raises(self, InvalidHeaders, "given", value, write_header, value, 0, (1,))

    def test_sizes(self):
        self.assertEqual([size_of(WIDEST, index) for index in range(6)], [1, 16, 3, 5, 4, 1])
        self.assertEqual(size_of(index=0, headers=HEADERS), 1)

    def test_wrong_indexes(self):
        for index in [-1, 2, True, False, None, "0", (0,), [0], {}, 10 ** 399, ("base",), "base"]:
            assert_raises(self, InvalidNumber, "given", index, size_of, HEADERS, index)
            assert_raises(self, InvalidNumber, "given", index, read_header, HEADERS, index, (1,))
            assert_raises(self, InvalidNumber, "given", index, write_header, HEADERS, index, (1,))
        assert_raises(self, InvalidNumber, "given", 0, size_of, (), 0)
        assert_raises(self, InvalidNumber, "given", 6, size_of, WIDEST, 6)

    def test_wrong_bytes(self):
        wrong = [(), (1, 2), (256,), (-1,), (True,), (False,), (None,), ("1",), [35], b"#", 35, "#", ((35,),)]
        for taken in wrong + JUNK:
            assert_raises(self, InvalidRest, "given", taken, read_header, HEADERS, 1, taken)
        for taken in [(0,) * 15, (0,) * 17, (0,) * 15 + (256,), [0] * 16]:
            assert_raises(self, InvalidRest, "given", taken, read_header, WIDEST, 1, taken)

    def test_wrong_words(self):
        wrong = [
            (), (1,), (1, 3, 0), (8, 3), (1, 32), (-1, 3), (1, -1), (True, 3), (1, False), (None, 3), ("1", 3), [1, 3],
            None, "13", 35, ((1, 3),), {}, ((1,), 3),
        ]
        for words in wrong + JUNK:
            assert_raises(self, InvalidFields, "given", words, write_header, HEADERS, 1, words)
        over = (0, 0, 4294967296, 0)
        assert_raises(self, InvalidFields, "given", over, write_header, WIDEST, 1, over)

    def test_the_first_wrong_parameter_is_told(self):
        assert_raises(self, InvalidHeaders, "given", None, size_of, None, None)
        assert_raises(self, InvalidHeaders, "given", 1, read_header, 1, 2, 3)
        assert_raises(self, InvalidHeaders, "given", 1, write_header, words=3, index=2, headers=1)
        assert_raises(self, InvalidNumber, "given", 2, read_header, HEADERS, 2, 3)
        assert_raises(self, InvalidNumber, "given", 2, read_header, taken=3, index=2, headers=HEADERS)
        assert_raises(self, InvalidNumber, "given", 2, write_header, words=3, index=2, headers=HEADERS)
        assert_raises(self, InvalidRest, "given", 3, read_header, taken=3, index=1, headers=HEADERS)
        assert_raises(self, InvalidFields, "given", 3, write_header, words=3, index=1, headers=HEADERS)

    def test_the_highest_bit_comes_first(self):
        bits = (("h", tuple(("f" + str(at), 1) for at in range(8))),)
        self.assertEqual(read_header(bits, 0, (128,)), (1, 0, 0, 0, 0, 0, 0, 0))
        self.assertEqual(read_header(bits, 0, (1,)), (0, 0, 0, 0, 0, 0, 0, 1))
        self.assertEqual(read_header((("h", (("a", 16),)),), 0, (1, 2)), (258,))
        self.assertEqual(read_header((("h", (("a", 4), ("b", 12))),), 0, (0xAB, 0xCD)), (0xA, 0xBCD))
        self.assertEqual(write_header((("h", (("a", 4), ("b", 12))),), 0, (0xA, 0xBCD)), (0xAB, 0xCD))
        self.assertEqual(read_header(WIDEST, 3, (128, 0, 0, 1, 7)), (1, 1, 7))
        self.assertEqual(write_header(WIDEST, 3, (0, 2 ** 31 - 1, 0)), (127, 255, 255, 255, 0))

    def test_the_greatest_words(self):
        self.assertEqual(read_header(WIDEST, 1, (255,) * 16), (4294967295,) * 4)
        self.assertEqual(write_header(WIDEST, 1, (4294967295,) * 4), (255,) * 16)
        self.assertEqual(write_header(WIDEST, 1, (0, 4294967295, 0, 1)), (0,) * 4 + (255,) * 4 + (0,) * 7 + (1,))

    def test_writing_what_is_read_gives_the_bytes_back(self):
        for byte in range(256):
            self.assertEqual(write_header(HEADERS, 1, read_header(HEADERS, 1, (byte,))), (byte,))
        for index in range(6):
            size = size_of(WIDEST, index)
            for salt in range(50):
                taken = tuple((salt * 37 + at * 101 + salt * at * 11) % 256 for at in range(size))
                self.assertEqual(write_header(WIDEST, index, read_header(WIDEST, index, taken)), taken)

    def test_reading_what_is_written_gives_the_words_back(self):
        for mark in range(8):
            for rest in range(32):
                self.assertEqual(read_header(HEADERS, 1, write_header(HEADERS, 1, (mark, rest))), (mark, rest))
        for index in range(6):
            for salt in range(50):
                words = tuple(
                    (salt * 2654435761 + at * 40503) % 2 ** width for at, (_, width) in enumerate(WIDEST[index][1])
                )
                self.assertEqual(read_header(WIDEST, index, write_header(WIDEST, index, words)), words)


    def test_each_bit_of_the_last_one_of_the_widest_headers(self):
        names = [f"long_name_{at:02d}" for at in range(12)]
        widths = (32, 1, 31, 2, 30, 3, 5, 7, 11, 4, 1, 1)
        fields = tuple(zip(names, widths))
        headers = tuple((name, fields) for name in names[:6])
        self.assertEqual([are_headers(headers), size_of(headers, 5)], [True, 16])
        bit = 127
        for at, width in enumerate(widths):
            for shift in reversed(range(width)):
                words = tuple((1 << shift) * (at == other) for other in range(12))
                taken = tuple((1 << bit).to_bytes(16, "big"))
                self.assertEqual(write_header(headers, 5, words), taken)
                self.assertEqual(read_header(headers, 5, taken), words)
                bit -= 1
        self.assertEqual(bit, -1)


class PacketsTest(unittest.TestCase):
    def test_right_packets(self):
        for value in [(0, ()), (255, ()), (0, (0,) * 128), (255, (255,) * 128), (7, (1, 2))]:
            self.assertIs(is_packet(value), True)

    def test_wrong_packets(self):
        for value in wrong_packets():
            self.assertIs(is_packet(value), False, value)


def wrong_packets():
    """Values that are no packets."""
    return JUNK + [
        (), (1,), (1, (2,), 3), (256, ()), (-1, ()), (True, ()), (False, (1,)), (None, ()), ("1", ()), ((1,), ()),
        (1, [2]), (1, (256,)), (1, (-1,)), (1, (0, True)), (1, (None,)), (1, ("2",)), (1, ((2,),)), (1, b"2"), (1, 2),
        (1, None), (1, "2"), (1, (0,) * 129), (1, (0,) * 127 + (256,)), [1, (2,)], ((2,), 1), {1: (2,)}, (1, {}),
        (1, {2}), (10 ** 399, ()), (1, (10 ** 399,)),
    ]


if __name__ == "__main__":
    unittest.main()
