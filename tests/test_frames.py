"""Point 8: which values are frames, and how the others are told."""

import unittest

from switchstages.errors import InvalidFields, InvalidFrame, InvalidPacket, InvalidRest
from switchstages.parsers import comes_back, is_frame, parse, send, way_of
from tests.samples import FRAME, HEADERS, JUNK, PARSER, RIGHT_NAMES, TURNED, WIDEST, WRONG_NAMES, assert_raises
from tests.test_headers import wrong_headers, wrong_packets

KIND, MARK, NEXT = ("field", "base", "kind"), ("field", "tag", "mark"), ("field", "tag", "next")
IN = ("local", "in")
ACCEPT = ("accept",)
ORDER = ("base", "tag")


def framed(parser):
    return (HEADERS, parser, ORDER)


def led(onward):
    """A frame in which the middle one of three states has this NEXT."""
    return framed((("a", "base", ("go", "b")), ("b", None, onward), ("c", "tag", ACCEPT)))


def cased(*case):
    """A frame with this case, for a place of width 5 (the tag's next)."""
    return led(("by", NEXT, (case,), "accept"))


RIGHT_ONWARD = [
    ("accept",), ("refuse",), ("go", "c"), ("by", IN, (), "accept"), ("by", IN, (), "refuse"), ("by", IN, (), "c"),
    ("by", KIND, ((0, 0, "c"),), "accept"), ("by", KIND, ((255, 255, "refuse"),), "accept"),
    ("by", MARK, ((7, 7, "c"), (0, 7, "accept")), "refuse"), ("by", IN, ((255, 255, "c"),), "c"),
    ("by", KIND, tuple((at, 255, "c") for at in range(8)), "refuse"), ("by", KIND, ((1, 1, "c"), (1, 1, "c")), "c"),
]
WRONG_ONWARD = [
    (), ("accept", "accept"), ("refuse", None), ("stop",), ("go",), ("go", "a"), ("go", "b"), ("go", "d"),
    ("go", "accept"), ("go", "refuse"), ("go", None), ("go", ["c"]), ("go", "c", "c"), ("go", ("c",)), ("go", 2),
    ("go", True), ["go", "c"], ["accept"], "accept", "go", (None,), (("accept",),), (["accept"],), ("Accept",),
    ("by",), ("by", IN), ("by", IN, ()), ("by", IN, (), "accept", "accept"), ["by", IN, (), "accept"],
    ("by", IN, (), "a"), ("by", IN, (), "b"), ("by", IN, (), "d"), ("by", IN, (), None), ("by", IN, (), ("accept",)),
    ("by", IN, (), "go"), ("by", IN, [], "accept"), ("by", IN, None, "accept"), ("by", IN, "", "accept"),
    ("by", IN, {}, "accept"), ("by", IN, tuple((at, 255, "c") for at in range(9)), "c"), ("by", IN, (None,), "c"),
    ("by", IN, ((),), "c"), ("by", IN, (1, 1, "c"), "c"), ("by", IN, "accept", ()), (b"accept",), (1,), (True,),
]
WRONG_PLACES = [
    ("local", "out"), ("local", "gone"), ("local", "base"), ("local", "in", "in"), ("local",), ["local", "in"],
    ("field", "base", "mark"), ("field", "tag", "kind"), ("field", "none", "kind"), ("field", "base"), ("field",),
    ("field", "base", "kind", 8), ["field", "base", "kind"], ("base", "kind"), ("param", "kind"), ("held", "base"),
    ("local", None), ("field", None, "kind"), ("field", "base", None), ("field", ["base"], "kind"), "in", None, (),
    ("field", "base", ["kind"]), ("field", {}, {}), (None, None), "field", ("in",), ("local", "base", "kind"),
    ("Field", "base", "kind"), (["field"], "base", "kind"), ("field", "kind", "base"), ("field", True, False),
]
WRONG_CASES = [
    (32, 31, "c"), (0, 32, "c"), (32, 32, "c"), (4, 3, "c"), (1, 0, "c"), (31, 30, "c"), (-1, 31, "c"), (0, -1, "c"),
    (True, 31, "c"), (0, False, "c"), (1, True, "c"), ("1", 31, "c"), (1, "31", "c"), (None, 31, "c"), (1, None, "c"),
    (1, 1, "a"), (1, 1, "b"), (1, 1, "d"), (1, 1, None), (1, 1, ["c"]), (1, 1, 2), (1, 1, ("c",)), (1, 1),
    (1, 1, "c", "c"), (), (10 ** 399, 31, "c"), (0, 10 ** 399, "c"), ((1,), 31, "c"), (1, [31], "c"),
]


def wrong_parsers():
    """Values that are no parsers for HEADERS, apart from what comes twice along aims."""
    found = JUNK + [(), PARSER[0], list(PARSER), dict.fromkeys("ab"), PARSER + (None,), PARSER + ((),)]
    found += [(part,) for part in JUNK] + [PARSER + (part,) for part in JUNK]
    found += [((name, None, ACCEPT),) for name in WRONG_NAMES]
    found += [(("a", header, ACCEPT),) for header in JUNK[1:] + ["none", "kind", "Base", ("base",), ["base"], ""]]
    found += [
        (("a", None),), (("a", None, ACCEPT, ACCEPT),), (["a", None, ACCEPT],), ((None, "a", ACCEPT),),
        (("a", None, ACCEPT), ("a", None, ACCEPT)),
        (("a", None, ("go", "b")), ("b", None, ACCEPT), ("a", None, ACCEPT)),
        tuple(("s" + str(at), None, ACCEPT) for at in range(9)), ("a", None, ACCEPT),
    ]
    return found


def wrong_frames():
    """Values that are no frames."""
    found = JUNK + [(), FRAME[:2], FRAME + ((),), list(FRAME), (PARSER, HEADERS, ORDER), {1: FRAME}]
    found += [(value, PARSER, ORDER) for value in wrong_headers()] + [framed(value) for value in wrong_parsers()]
    found += [led(value) for value in WRONG_ONWARD + JUNK] + [cased(*case) for case in WRONG_CASES]
    found += [led(("by", place, (), "accept")) for place in WRONG_PLACES + JUNK]
    found += [led(("by", KIND, (case,), "accept")) for case in JUNK + [[1, 1, "c"]]]
    found += [led(("by", KIND, ((1, 1, "c"), case), "accept")) for case in [(2, 1, "c"), (1, 1), None]]
    orders = [
        (), ("base",), ("base", "base"), ("base", "tag", "tag"), ("tag",), ("base", "none"), ["base", "tag"], None,
        "base", ("base", None), ("base", True), (("base",), ("tag",)), ("base", ["tag"]), {"base": 1, "tag": 2},
        ("", ""), ("base", "Tag"), ("base", "tag", "more"), (1, 2), ("base", 1), {"base", "tag"}, ("base", {}),
    ]
    return found + [(HEADERS, PARSER, order) for order in orders + JUNK]


def along(*states):
    return framed(tuple(states))


ONE_HEADER_TWICE = [
    along(("a", "base", ("go", "b")), ("b", "base", ACCEPT)),
    along(("a", "base", ("by", IN, ((1, 1, "b"),), "accept")), ("b", "base", ACCEPT)),
    along(("a", "base", ("by", IN, ((1, 1, "refuse"),), "b")), ("b", "base", ACCEPT)),
    along(("a", "base", ("go", "b")), ("b", None, ("go", "c")), ("c", "base", ACCEPT)),
    along(("a", "tag", ("go", "b")), ("b", "base", ("go", "c")), ("c", "tag", ACCEPT)),
    along(("a", None, ACCEPT), ("b", "base", ("go", "c")), ("c", "base", ACCEPT)),
    along(("a", "base", ("by", IN, ((0, 0, "accept"),), "b")), ("b", "base", ACCEPT)),
    along(("a", None, ("by", IN, (), "b")), ("b", "tag", ("by", KIND, ((1, 1, "c"),), "d")), ("c", None, ACCEPT),
          ("d", "tag", ACCEPT)),
]
ONE_PLACE_TWICE = [
    along(("a", None, ("by", IN, (), "b")), ("b", None, ("by", IN, (), "accept"))),
    along(("a", None, ("by", KIND, ((1, 1, "b"),), "accept")), ("b", None, ("by", KIND, (), "accept"))),
    along(("a", None, ("by", KIND, (), "b")), ("b", "base", ("go", "c")), ("c", None, ("by", KIND, (), "refuse"))),
    along(("a", None, ACCEPT), ("b", None, ("by", MARK, (), "c")), ("c", "tag", ("by", MARK, (), "accept"))),
]
ONCE = [
    along(("a", None, ("by", IN, ((1, 1, "b"),), "c")), ("b", "base", ACCEPT), ("c", "base", ACCEPT)),
    along(("a", None, ("by", IN, ((1, 1, "b"),), "c")), ("b", None, ("by", KIND, (), "d")),
          ("c", None, ("by", KIND, (), "d")), ("d", "base", ACCEPT)),
    along(("a", "base", ACCEPT), ("b", "base", ACCEPT)),
    along(("a", "base", ("refuse",)), ("b", "base", ("by", IN, (), "accept"))),
    along(("a", None, ("by", IN, (), "accept")), ("b", None, ("by", IN, (), "accept"))),
    along(("a", "base", ("by", KIND, (), "b")), ("b", "tag", ("by", MARK, (), "c")), ("c", None, ("by", NEXT, (), "d")),
          ("d", None, ("by", IN, (), "accept"))),
    along(("a", "base", ("by", KIND, ((1, 1, "b"), (2, 2, "b")), "b")), ("b", "tag", ACCEPT)),
]


class FramesTest(unittest.TestCase):
    def test_right_frames(self):
        widest = tuple(name for name, _ in WIDEST)
        right = [
            FRAME, TURNED, ((), (("a", None, ACCEPT),), ()), framed((("a", None, ("refuse",)),)),
            framed(tuple(("s" + str(at), None, ACCEPT) for at in range(8))), framed((("base", "base", ACCEPT),)),
            (WIDEST, (("a", "h1", ACCEPT),), widest), (WIDEST, (("a", "h1", ACCEPT),), widest[::-1]),
        ]
        for value in right + [led(onward) for onward in RIGHT_ONWARD] + ONCE:
            self.assertIs(is_frame(value), True, value)
        for name in RIGHT_NAMES:
            self.assertIs(is_frame(framed(((name, None, ACCEPT),))), True, name)

    def test_right_cases(self):
        for case in [(0, 0, "c"), (31, 31, "c"), (16, 16, "accept"), (0, 31, "refuse"), (21, 29, "c")]:
            self.assertIs(is_frame(cased(*case)), True, case)

    def test_cases_of_places_of_width_8(self):
        for place in (IN, KIND):
            for word, mask in ((255, 255), (0, 255), (0, 0)):
                self.assertIs(is_frame(led(("by", place, ((word, mask, "c"),), "accept"))), True)
            for word, mask in ((256, 256), (0, 256), (0, 511)):
                self.assertIs(is_frame(led(("by", place, ((word, mask, "c"),), "accept"))), False)

    def test_cases_of_places_of_width_1_and_32(self):
        for width, most in ((1, 1), (32, 4294967295)):
            headers = (("h", (("a", width),) + tuple(("f" + str(at), 1) for at in range(-width % 8))),)
            for word, right in ((0, True), (most, True), (most + 1, False)):
                onward = ("by", ("field", "h", "a"), ((word, word, "accept"),), "refuse")
                self.assertIs(is_frame((headers, (("s", "h", onward),), ("h",))), right)

    def test_wrong_frames(self):
        for value in wrong_frames():
            self.assertIs(is_frame(value), False, value)

    def test_no_header_is_read_and_no_place_asked_twice(self):
        for value in ONE_HEADER_TWICE + ONE_PLACE_TWICE:
            self.assertIs(is_frame(value), False, value)

    def test_many_aims_are_followed_once_each(self):
        names = ["s" + str(at) for at in range(8)]
        fields = tuple(("f" + str(at), 8) for at in range(8))
        states = []
        for at in range(7):
            cases = tuple((case, 255, names[at + 1]) for case in range(8))
            states.append((names[at], None, ("by", ("field", "h", fields[at][0]), cases, names[at + 1])))
        for last, right in (("f7", True), ("f0", False)):
            end = (names[7], "h", ("by", ("field", "h", last), (), "accept"))
            self.assertIs(is_frame(((("h", fields),), (*states, end), ("h",))), right)

    def test_wrong_frames_are_told(self):
        for value in wrong_frames() + ONE_HEADER_TWICE + ONE_PLACE_TWICE:
            assert_raises(self, InvalidFrame, "given", value, way_of, value, (1, ()))
            assert_raises(self, InvalidFrame, "given", value, parse, value, (1, ()))
            assert_raises(self, InvalidFrame, "given", value, comes_back, value, (1, ()))
            assert_raises(self, InvalidFrame, "given", value, send, value, (None, None), ())


class WrongArgumentsTest(unittest.TestCase):
    def test_wrong_packets_are_told(self):
        for value in wrong_packets():
            for call in (way_of, parse, comes_back):
                assert_raises(self, InvalidPacket, "given", value, call, FRAME, value)

    def test_wrong_fields_are_told(self):
        wrong = JUNK + [
            (), (None,), (None, None, None), ((1,), (1, 3), ()), [(1,), (1, 3)], ((256,), None), ((-1,), None),
            ((), None), ((1, 1), None), ([1], None), ((True,), None), ((None,), None), (None, (8, 0)),
            (None, (0, 32)), (None, (1,)), (None, (1, 2, 3)), (None, [1, 3]), (1, (1, 3)), (None, "13"),
            (None, False), (0, None), ((1,), {}), "no", (("1",), None),
            (((1,),), None), ((10 ** 399,), None), {0: None, 1: None},
        ]
        for value in wrong:
            assert_raises(self, InvalidFields, "given", value, send, FRAME, value, ())
        assert_raises(self, InvalidFields, "given", (None,), send, ((), (("a", None, ACCEPT),), ()), (None,), ())

    def test_wrong_rests_are_told(self):
        wrong = JUNK + [
            (0,) * 129, (256,), (-1,), (True,), [1], (None,), ("1",), ((1,),), (1, (2,)), 1, (0,) * 127 + (256,),
        ]
        for value in wrong:
            assert_raises(self, InvalidRest, "given", value, send, FRAME, (None, None), value)

    def test_the_first_wrong_parameter_is_told(self):
        for call in (way_of, parse, comes_back):
            assert_raises(self, InvalidFrame, "given", 1, call, 1, 2)
            assert_raises(self, InvalidFrame, "given", 1, call, packet=2, frame=1)
            assert_raises(self, InvalidPacket, "given", 2, call, packet=2, frame=FRAME)
        assert_raises(self, InvalidFrame, "given", 1, send, 1, 2, 3)
        assert_raises(self, InvalidFrame, "given", 1, send, rest=3, fields=2, frame=1)
        assert_raises(self, InvalidFields, "given", 2, send, FRAME, 2, 3)
        assert_raises(self, InvalidFields, "given", 2, send, rest=3, fields=2, frame=FRAME)
        assert_raises(self, InvalidRest, "given", 3, send, rest=3, fields=(None, None), frame=FRAME)


if __name__ == "__main__":
    unittest.main()
