"""Points 9 and 10: how packets are parsed, which way they take, and what is sent."""

import unittest

from switchstages.parsers import comes_back, is_frame, parse, send, way_of
from tests.samples import FRAME, HEADERS, TURNED, WIDEST

ACCEPT = ("accept",)
IN = ("local", "in")


def both(case, frame, packet, way, told):
    """That a packet takes this way and is parsed to this."""
    case.assertIs(is_frame(frame), True)
    case.assertEqual(way_of(frame, packet), way)
    case.assertEqual(parse(frame, packet), told)


class ParsersTest(unittest.TestCase):
    def test_the_example(self):
        headers = (("base", (("kind", 8),)), ("tag", (("mark", 3), ("next", 5))))
        parser = (
            ("start", "base", ("by", ("field", "base", "kind"), ((7, 15, "more"),), "accept")),
            ("more", "tag", ("accept",)),
        )
        frame, turned = (headers, parser, ("base", "tag")), (headers, parser, ("tag", "base"))
        self.assertEqual(
            [is_frame(frame), parse(frame, (1, (23, 35, 9))), parse(frame, (1, (8, 35))), parse(frame, (1, (7,)))],
            [True, (((23,), (1, 3)), (9,)), (((8,), None), (35,)), None],
        )
        self.assertEqual(
            [
                way_of(frame, (1, (23, 35, 9))), way_of(frame, (1, (8,))),
                way_of(frame, (1, (7,))), way_of(frame, (1, ())),
            ],
            [("start", "more", "accept"), ("start", "accept"), ("start", "more", "refuse"), ("start", "refuse")],
        )
        self.assertEqual(
            [
                send(turned, ((23,), (1, 3)), (9,)), comes_back(turned, (1, (23, 35, 9))),
                comes_back(turned, (1, (7, 7))), comes_back(frame, (1, (7,))),
            ],
            [(35, 23, 9), False, True, False],
        )

    def test_parameters_by_name(self):
        packet = (1, (23, 35, 9))
        self.assertEqual(way_of(packet=packet, frame=FRAME), ("start", "more", "accept"))
        self.assertEqual(parse(packet=packet, frame=FRAME), (((23,), (1, 3)), (9,)))
        self.assertEqual(send(rest=(9,), fields=((23,), (1, 3)), frame=TURNED), (35, 23, 9))
        self.assertIs(comes_back(packet=packet, frame=TURNED), False)
        self.assertIs(is_frame(value=FRAME), True)

    def test_no_headers(self):
        frame = ((), (("only", None, ACCEPT),), ())
        both(self, frame, (0, ()), ("only", "accept"), ((), ()))
        both(self, frame, (255, (1,) * 128), ("only", "accept"), ((), (1,) * 128))
        self.assertEqual(send(frame, (), (5,)), (5,))
        self.assertIs(comes_back(frame, (3, ())), True)

    def test_refuse_refuses(self):
        frame = (HEADERS, (("a", "base", ("go", "b")), ("b", None, ("refuse",))), ("base", "tag"))
        both(self, frame, (0, (1, 2)), ("a", "b", "refuse"), None)
        both(self, frame, (0, ()), ("a", "refuse"), None)
        self.assertIs(comes_back(frame, (0, (1, 2))), False)

    def test_bytes_just_enough_and_one_too_few(self):
        frame = (WIDEST, (("a", "h1", ("go", "b")), ("b", "h2", ACCEPT)), tuple(name for name, _ in WIDEST))
        both(self, frame, (0, (255,) * 15), ("a", "refuse"), None)
        both(self, frame, (0, (255,) * 16), ("a", "b", "refuse"), None)
        both(self, frame, (0, (255,) * 18), ("a", "b", "refuse"), None)
        held = (None, (4294967295,) * 4, (3,) * 12, None, None, None)
        both(self, frame, (0, (255,) * 19), ("a", "b", "accept"), (held, ()))
        both(self, frame, (0, (255,) * 128), ("a", "b", "accept"), (held, (255,) * 109))

    def test_by_in(self):
        cases = ((0, 255, "b"), (255, 255, "c"), (128, 128, "accept"))
        parser = (("a", None, ("by", IN, cases, "refuse")), ("b", "base", ACCEPT), ("c", "tag", ACCEPT))
        frame = (HEADERS, parser, ("base", "tag"))
        both(self, frame, (0, (9,)), ("a", "b", "accept"), (((9,), None), ()))
        both(self, frame, (255, (9,)), ("a", "c", "accept"), ((None, (0, 9)), ()))
        both(self, frame, (128, (9,)), ("a", "accept"), ((None, None), (9,)))
        both(self, frame, (254, ()), ("a", "accept"), ((None, None), ()))
        both(self, frame, (127, (9,)), ("a", "refuse"), None)

    def test_the_first_case_that_fits_leads_on(self):
        cases = ((1, 1, "refuse"), (0, 0, "b"), (2, 255, "refuse"))
        frame = (HEADERS, (("a", None, ("by", IN, cases, "refuse")), ("b", None, ACCEPT)), ("tag", "base"))
        self.assertEqual(
            [way_of(frame, (came, ())) for came in (0, 1, 2, 3, 254)],
            [("a", "b", "accept"), ("a", "refuse"), ("a", "b", "accept"), ("a", "refuse"), ("a", "b", "accept")],
        )

    def test_mask_0_is_hit_by_all_words_and_no_cases_by_none(self):
        all_hit = ((0, 0, "accept"),)
        for cases, aim, end in ((all_hit, "refuse", "accept"), ((), "refuse", "refuse"), ((), "accept", "accept")):
            frame = (HEADERS, (("a", None, ("by", IN, cases, aim)),), ("base", "tag"))
            for came in (0, 1, 128, 255):
                self.assertEqual(way_of(frame, (came, ())), ("a", end))

    def test_eight_cases_and_all_bits_of_32(self):
        words = [0, 1, 2 ** 31, 2 ** 32 - 1, 2 ** 16, 255, 2 ** 32 - 2, 12345]
        cases = tuple((word, 2 ** 32 - 1, "s" + str(at + 1)) for at, word in enumerate(words[:7]))
        cases += ((12345, 12345, "accept"),)
        states = (("s0", "h", ("by", ("field", "h", "w"), cases, "refuse")),)
        states += tuple(("s" + str(at), None, ACCEPT) for at in range(1, 8))
        frame = ((("h", (("w", 32),)),), states, ("h",))
        for at, word in enumerate(words[:7]):
            taken = tuple(word.to_bytes(4, "big"))
            both(self, frame, (0, taken), ("s0", "s" + str(at + 1), "accept"), (((word,),), ()))
        both(self, frame, (0, (0, 0, 48, 57)), ("s0", "accept"), (((12345,),), ()))
        both(self, frame, (0, (0, 0, 48, 56)), ("s0", "refuse"), None)

    def test_a_field_is_0_while_its_header_is_not_held(self):
        kind = ("field", "base", "kind")
        parser = (
            ("a", None, ("by", kind, ((0, 255, "b"),), "refuse")), ("b", "base", ACCEPT),
        )
        frame = (HEADERS, parser, ("base", "tag"))
        both(self, frame, (0, (77,)), ("a", "b", "accept"), (((77,), None), ()))
        never = (HEADERS, (("a", "tag", ("by", kind, ((0, 1, "accept"),), "refuse")),), ("base", "tag"))
        both(self, never, (0, (77, 78)), ("a", "accept"), ((None, (2, 13)), (78,)))

    def test_a_field_is_asked_by_a_later_state(self):
        place = ("field", "tag", "mark")
        parser = (
            ("a", "tag", ("go", "b")), ("b", "base", ("go", "c")),
            ("c", None, ("by", place, ((4, 4, "accept"),), "d")), ("d", None, ("refuse",)),
        )
        frame = (HEADERS, parser, ("tag", "base"))
        both(self, frame, (0, (128, 1, 2)), ("a", "b", "c", "accept"), (((1,), (4, 0)), (2,)))
        both(self, frame, (0, (127, 1, 2)), ("a", "b", "c", "d", "refuse"), None)

    def test_states_may_be_passed_over(self):
        parser = (("a", None, ("go", "d")), ("b", None, ("refuse",)), ("c", "base", ACCEPT), ("d", "tag", ACCEPT))
        frame = (HEADERS, parser, ("base", "tag"))
        both(self, frame, (0, (35,)), ("a", "d", "accept"), ((None, (1, 3)), ()))

    def test_eight_states_in_a_row(self):
        names = ["s" + str(at) for at in range(8)]
        heads = ["h0", "h1", "h2", "h3", "h4", None, "abcdefghij_2", None]
        parser = tuple((names[at], heads[at], ("go", names[at + 1])) for at in range(7)) + (("s7", None, ACCEPT),)
        order = ("abcdefghij_2", "h4", "h3", "h2", "h1", "h0")
        frame = (WIDEST, parser, order)
        taken = tuple(range(1, 31))
        fields, rest = parse(frame, (0, taken + (99,)))
        self.assertEqual(way_of(frame, (0, taken)), (*names, "accept"))
        self.assertEqual([fields[0], fields[3][0], fields[4], fields[5]], [(0,) * 7 + (1,), 0, (0x1A1B1C1D,), (30,)])
        self.assertEqual(rest, (99,))
        turned = (30, *range(26, 30), *range(21, 26), *range(18, 21), *range(2, 18), 1)
        self.assertEqual(send(frame, fields, rest), turned + (99,))

    def test_what_is_sent(self):
        self.assertEqual(send(FRAME, (None, None), ()), ())
        self.assertEqual(send(FRAME, (None, None), (1,) * 128), (1,) * 128)
        self.assertEqual(send(FRAME, (None, (7, 31)), (0,)), (255, 0))
        self.assertEqual(send(FRAME, ((255,), None), (4,)), (255, 4))
        self.assertEqual(send(FRAME, ((1,), (0, 2)), (3,)), (1, 2, 3))
        self.assertEqual(send(TURNED, ((1,), (0, 2)), (3,)), (2, 1, 3))
        order = tuple(name for name, _ in WIDEST)
        whole = ((1,) * 8, (2 ** 32 - 1,) * 4, (3,) * 12, (1, 2 ** 31 - 1, 255), (2 ** 32 - 1,), (255,))
        self.assertEqual(send((WIDEST, (("a", None, ACCEPT),), order), whole, (255,) * 128), (255,) * 158)

    def test_what_a_refused_packet_has_does_not_come_back(self):
        for packet in [(1, ()), (1, (7,)), (1, (247,))]:
            self.assertIs(comes_back(FRAME, packet), False)

    def test_equal_calls_return_equal_results(self):
        packet = (1, (23, 35, 9))
        for call in (way_of, parse, comes_back):
            self.assertEqual(call(FRAME, packet), call(tuple(FRAME), (1, tuple([23, 35, 9]))))
        self.assertIsInstance(parse(FRAME, packet)[0], tuple)
        self.assertIsInstance(parse(FRAME, packet)[1], tuple)
        self.assertIsInstance(send(FRAME, (None, None), ()), tuple)


if __name__ == "__main__":
    unittest.main()
