"""Points 8 to 11 for ways: which ways packets take, packets of them, dead states, and what does not come back."""

import unittest

from switchstages.errors import InvalidFrame, InvalidNumber, InvalidWay, InvalidWord
from switchstages.parsers import comes_back, is_frame, parsed, sent, walk, way_of
from switchstages.ways import dead_states, does_lead, lost, packet_on, ways
from tests.makers import Maker
from tests.samples import FRAME, HEADERS, JUNK, TURNED, WIDEST, assert_raises
from tests.test_frames import wrong_frames

ACCEPT = ("accept",)
IN = ("local", "in")
BYTE = (("a", (("x", 8),)), ("b", (("y", 8),)))


def byte_frame(*states, headers=BYTE, order=None):
    """A frame of headers, with an order turned round if none is told."""
    names = tuple(name for name, _ in headers)
    return (headers, states, names[::-1] if order is None else order)


def asked(header, cases, aim, field=None):
    """A NEXT by the only field of a one-byte header."""
    return ("by", ("field", header, field or {"a": "x", "b": "y"}[header]), tuple(cases), aim)


def words_leading(onward, width):
    """By each aim, all words of a place that lead to it, tried one by one."""
    found = {}
    for word in range(2 ** width):
        aim = onward[3]
        for wanted, mask, other in onward[2]:
            if word & mask == wanted:
                aim = other
                break
        found.setdefault(aim, []).append(word)
    return found


def plain_rows(frame):
    """All rows of states that packets take, told by trying all words of each place; only for narrow places."""
    headers, parser, _ = frame
    states = {state[0]: state for state in parser}
    widths = {("field", name, field): width for name, fields in headers for field, width in fields}
    widths[IN] = 8
    rows, found = [(parser[0][0],)], []
    while rows:
        row = rows.pop()
        found.append(row)
        if row[-1] not in states:
            continue
        onward = states[row[-1]][2]
        if onward[0] != "by":
            aims = [onward[-1]]
        elif onward[1] != IN and onward[1][1] not in [states[name][1] for name in row]:
            aims = [aim for aim, words in words_leading(onward, widths[onward[1]]).items() if 0 in words]
        else:
            aims = list(words_leading(onward, widths[onward[1]]))
        rows += [row + (aim,) for aim in aims]
    return found


class WaysTest(unittest.TestCase):
    def told(self, frame, expected, dead=()):
        self.assertIs(is_frame(frame), True)
        self.assertEqual((ways(frame), dead_states(frame)), (tuple(expected), tuple(dead)))
        for way in expected:
            packet = packet_on(frame, way)
            self.assertEqual(way_of(frame, packet), way)
            self.assertLessEqual(len(packet[1]), 128)

    def test_the_examples(self):
        told = [
            ways(FRAME), lost(FRAME), dead_states(FRAME), does_lead(FRAME, 0, 39),
            way_of(FRAME, packet_on(FRAME, ("start", "more", "accept"))),
        ]
        two = (("start", "accept"), ("start", "more", "accept"))
        self.assertEqual(told, [two, None, (), "more", ("start", "more", "accept")])
        found = lost(TURNED)
        self.assertEqual([way_of(TURNED, found), comes_back(TURNED, found)], [("start", "more", "accept"), False])

    def test_plain_ends(self):
        self.told(((), (("s", None, ACCEPT),), ()), [("s", "accept")])
        self.told(((), (("s", None, ("refuse",)),), ()), [])
        self.told(byte_frame(("s", "a", ("go", "t")), ("t", "b", ("refuse",))), [])
        self.told(byte_frame(("s", "a", ("go", "u")), ("t", None, ACCEPT), ("u", "b", ACCEPT)), [("s", "u", "accept")],
            ["t"])

    def test_ways_ascend_by_the_indexes_of_their_states(self):
        # The names descend, so an order by names would show.
        frame = byte_frame(
            ("z", None, ("by", IN, ((1, 3, "x"), (2, 3, "y"), (3, 3, "w")), "accept")),
            ("y", "a", asked("a", [(0, 1, "w")], "x")), ("x", "b", asked("b", [(0, 1, "w")], "accept")),
            ("w", None, ACCEPT),
        )
        self.told(frame, [
            ("z", "accept"), ("z", "y", "x", "accept"), ("z", "y", "x", "w", "accept"), ("z", "y", "w", "accept"),
            ("z", "x", "accept"), ("z", "x", "w", "accept"), ("z", "w", "accept"),
        ])

    def test_cases_that_are_hidden(self):
        for cases, aims, aim in [
            ([(0, 0, "t"), (1, 1, "u")], "t", "u"), ([(1, 1, "t"), (3, 3, "u")], "tv", "v"),
            ([(1, 1, "t"), (0, 1, "u"), (4, 4, "v")], "tu", "v"), ([(1, 255, "t"), (1, 255, "u")], "tv", "v"),
            ([(0, 3, "t"), (1, 3, "t"), (2, 3, "t"), (3, 3, "t")], "t", "u"),
            ([(0, 3, "t"), (1, 3, "t"), (2, 3, "t")], "tu", "u"),
            ([(1, 3, "t"), (2, 3, "t"), (0, 3, "t"), (3, 7, "u"), (7, 7, "u"), (1, 1, "v")], "tu", "v"),
            ([(3, 3, "t"), (1, 3, "u"), (1, 1, "v"), (0, 0, "w")], "tuw", "accept"), ([], "v", "v"),
            ([(128, 128, "t"), (0, 192, "u"), (64, 64, "v")], "tuv", "w"),
            ([(1, 1, "t"), (2, 2, "t"), (4, 4, "t"), (8, 8, "t"), (16, 16, "t"), (32, 32, "t"), (64, 64, "t"),
                (0, 0, "u")], "tu", "v"),
            ([(1, 1, "t"), (2, 2, "t"), (4, 4, "t"), (8, 8, "t"), (16, 16, "t"), (32, 32, "t"), (192, 192, "t"),
                (0, 255, "u")], "tuv", "v"),
        ]:
            states = tuple((name, None, ACCEPT) for name in "tuvw")
            dead = [name for name in "tuvw" if name not in aims]
            frame = byte_frame(("s", "a", asked("a", cases, aim)), *states)
            self.told(frame, [("s", name, "accept") for name in aims], dead)
            self.told(byte_frame(("s", None, ("by", IN, tuple(cases), aim)), *states),
                      [("s", name, "accept") for name in aims], dead)

    def test_a_case_of_the_same_aim_hides_nothing(self):
        frame = byte_frame(("s", "a", asked("a", [(1, 1, "accept"), (1, 3, "accept"), (0, 1, "t")], "u")),
                           ("t", None, ACCEPT), ("u", None, ACCEPT))
        self.told(frame, [("s", "accept"), ("s", "t", "accept")], ["u"])

    def test_a_place_asked_before_its_header_is_held_counts_by_0(self):
        states = (("t", "a", ACCEPT), ("u", "a", ACCEPT), ("v", None, ACCEPT))
        for cases, way in [
            ([(1, 1, "t"), (0, 1, "u")], "u"), ([(1, 255, "t"), (2, 2, "u")], "v"), ([(0, 0, "t")], "t"), ([], "v"),
            ([(0, 255, "t")], "t"), ([(255, 255, "u"), (0, 128, "t")], "t"),
        ]:
            frame = byte_frame(("s", None, asked("a", cases, "v")), *states)
            self.told(frame, [("s", way, "accept")], [name for name in "tuv" if name != way])
        # The header that is read later brings what it likes.
        frame = byte_frame(("s", None, asked("a", [(0, 255, "t")], "refuse")), ("t", "a", ACCEPT))
        for word in (0, 1, 255):
            self.assertEqual(way_of(frame, (0, (word,))), ("s", "t", "accept"))

    def test_a_place_is_held_on_one_way_and_not_on_another(self):
        frame = byte_frame(
            ("s", None, ("by", IN, ((1, 1, "t"),), "u")), ("t", "a", ("go", "u")),
            ("u", None, asked("a", [(5, 255, "v"), (0, 255, "w")], "refuse")), ("v", None, ACCEPT), ("w", None, ACCEPT),
        )
        self.told(frame, [("s", "t", "u", "v", "accept"), ("s", "t", "u", "w", "accept"), ("s", "u", "w", "accept")])

    def test_all_bits_of_32(self):
        headers = (("a", (("x", 32),)),)
        cases = [(1 << at, 1 << at, "t") for at in range(7)]
        for last, found in [((0, 127, "u"), "tu"), ((0, 255, "u"), "tuv"), ((2 ** 32 - 128, 2 ** 32 - 1, "u"), "tuv")]:
            frame = byte_frame(("s", "a", asked("a", cases + [last], "v")), ("t", None, ACCEPT), ("u", None, ACCEPT),
                               ("v", None, ACCEPT), headers=headers)
            self.told(frame, [("s", name, "accept") for name in found], [name for name in "tuv" if name not in found])

    def test_8_states_and_6_headers(self):
        names = ["s" + str(at) for at in range(8)]
        heads = [name for name, _ in WIDEST]
        states = [(names[0], heads[0], ("by", IN, ((0, 1, "s1"),), "s2"))]
        for at in range(1, 6):
            states.append((names[at], heads[at],
                ("by", ("field", heads[at], WIDEST[at][1][0][0]), ((0, 1, names[at + 1]),),
                                                  names[at + 2])))
        states += [(names[6], None, ("by", ("field", heads[0], "f0"), ((1, 1, "s7"),), "accept")),
            (names[7], None, ACCEPT)]
        frame = (WIDEST, tuple(states), tuple(heads))
        self.assertIs(is_frame(frame), True)
        found = ways(frame)
        self.assertEqual(found, tuple(sorted(row for row in plain_rows_of_bits(states) if row[-1] == "accept")))
        self.assertEqual(len(found), len(set(found)))
        for way in found:
            packet = packet_on(frame, way)
            self.assertEqual(way_of(frame, packet), way)
            self.assertLessEqual(len(packet[1]), 128)
        self.assertEqual((dead_states(frame), lost(frame)), ((), None))

    def test_as_many_ways_as_there_can_be(self):
        names = ["s" + str(at) for at in range(8)]
        headers = (("h", tuple(("f" + str(at), 8) for at in range(8))),)
        states = []
        for at in range(8):
            aims = names[at + 1:] + ["accept"]
            cases = tuple((case, 255, aim) for case, aim in enumerate(aims[:8]))
            states.append((names[at], "h" if at == 0 else None, ("by", ("field", "h", "f" + str(at)), cases, "refuse")))
        frame = (headers, tuple(states), ("h",))
        found = ways(frame)
        self.assertEqual(len(found), 128)
        self.assertEqual([way_of(frame, packet_on(frame, way)) for way in found], list(found))
        self.assertIs(lost(frame), None)


def plain_rows_of_bits(states):
    """All rows along aims, for states that may be left by each of their aims."""
    named, rows, found = {state[0]: state for state in states}, [(states[0][0],)], []
    while rows:
        row = rows.pop()
        found.append(row)
        if row[-1] in named:
            onward = named[row[-1]][2]
            aims = [onward[-1]] + ([case[2] for case in onward[2]] if onward[0] == "by" else [])
            rows += [row + (aim,) for aim in aims]
    return found


class LostTest(unittest.TestCase):
    def told(self, frame, is_lost):
        self.assertIs(is_frame(frame), True)
        packet = lost(frame)
        self.assertEqual(packet is not None, is_lost, frame)
        if packet is not None:
            self.assertEqual(way_of(frame, packet)[-1], "accept")
            self.assertIs(comes_back(frame, packet), False)

    def test_an_order_that_keeps_to_each_way_loses_nothing(self):
        self.told(byte_frame(("s", "a", ("go", "t")), ("t", "b", ACCEPT), order=("a", "b")), False)
        self.told(byte_frame(("s", "a", ("go", "t")), ("t", "b", ACCEPT)), True)
        self.told(byte_frame(("s", "a", ("go", "t")), ("t", "b", ("refuse",))), False)
        self.told(byte_frame(("s", None, ("by", IN, ((1, 1, "t"),), "u")), ("t", "a", ACCEPT), ("u", "b", ACCEPT)),
            False)

    def test_a_way_that_no_packet_takes_loses_nothing(self):
        for cases, is_lost in [([(0, 0, "accept"), (1, 1, "t")], False), ([(0, 1, "accept"), (1, 1, "t")], True)]:
            self.told(byte_frame(("s", "a", asked("a", cases, "refuse")), ("t", "b", ACCEPT)), is_lost)

    def test_constant_bits_that_are_alike(self):
        for one, other, is_lost in [
            ((35, 255), (35, 255), False), ((35, 255), (34, 255), True), ((0, 255), (0, 255), False),
            ((34, 255), (34, 254), True), ((34, 254), (34, 255), True), ((255, 255), (255, 255), False),
        ]:
            frame = byte_frame(("s", "a", asked("a", [(*one, "t")], "refuse")),
                               ("t", "b", asked("b", [(*other, "accept")], "refuse")))
            self.told(frame, is_lost)

    def test_bits_that_are_constant_by_what_earlier_cases_take_away(self):
        halves = [(128, 128, "refuse"), (64, 64, "refuse"), (32, 32, "refuse"), (0, 16, "refuse"), (8, 8, "refuse")]
        rest = [(4, 4, "refuse"), (2, 2, "refuse")]
        for last, is_lost in [((0, 1, "refuse"), False), ((1, 1, "refuse"), True)]:
            frame = byte_frame(("s", "a", asked("a", halves + rest + [last], "t")),
                               ("t", "b", asked("b", [(17, 255, "accept")], "refuse")))
            self.told(frame, is_lost)

    def test_a_field_that_was_asked_before_it_was_held_is_free(self):
        frame = byte_frame(("s", None, asked("a", [(0, 255, "t")], "refuse")), ("t", "a", ("go", "u")),
                           ("u", "b", asked("b", [(0, 255, "accept")], "refuse")))
        self.told(frame, True)

    def test_two_bits_of_one_field(self):
        headers = (("a", (("x", 8),)), ("b", (("y", 16),)))
        state = ("s", "a", ("by", ("field", "a", "x"), ((0, 255, "t"),), "refuse"))
        for cases, is_lost in [
            ([(0, 65535, "accept")], False), ([(0, 65534, "accept")], True), ([(257, 65535, "accept")], True),
            ([(0, 255, "accept")], True), ([(0, 65535, "accept"), (256, 65535, "refuse")], False),
        ]:
            self.told(byte_frame(state, ("t", "b", asked("b", cases, "refuse", "y")), headers=headers), is_lost)

    def test_bits_of_one_field_that_are_not_constant_but_alike(self):
        # Read a, then b; sent b, then a: byte 0 is b's first one then, byte 1 its second one, byte 2 that of a.
        headers = (("a", (("x", 8),)), ("b", (("y", 16),)))
        alike = [(0x0000, 0xFFFF, "accept"), (0xFFFF, 0xFFFF, "accept")]
        for cases, is_lost in [(alike, True), (alike[:1], False), (alike[1:], True)]:
            frame = byte_frame(("s", "a", ("by", ("field", "a", "x"), ((0, 255, "t"),), "refuse")),
                               ("t", "b", asked("b", cases, "refuse", "y")), headers=headers)
            self.told(frame, is_lost)
        # With b of 24 bits ahead of a of 8 most bits of b are compared with other bits of b.
        headers = (("b", (("y", 24),)), ("a", (("x", 8),)))
        for cases, is_lost in [
            ([(0, 0xFFFFFF, "t")], False), ([(0xABABAB, 0xFFFFFF, "t")], True),
            ([(0, 0xFFFFFF, "t"), (0x10101, 0xFFFFFF, "t")], True),
        ]:
            frame = byte_frame(("s", "b", asked("b", cases, "refuse", "y")),
                ("t", "a", asked("a", [(0, 255, "accept")], "refuse")),
                               headers=headers)
            self.told(frame, is_lost)
        for word in (0xAB, 0, 255):
            frame = byte_frame(("s", "b", asked("b", [(word * 0x10101, 0xFFFFFF, "t")], "refuse", "y")),
                               ("t", "a", asked("a", [(word, 255, "accept")], "refuse")), headers=headers)
            self.told(frame, False)

    def test_all_packets_of_small_frames_one_by_one(self):
        headers = (("a", (("x", 3), ("y", 2), ("z", 3))), ("b", (("x", 8),)))
        packets = [(0, (one, two)) for one in range(256) for two in range(256)]
        packets += [(0, (one,)) for one in range(256)] + [(0, ())]
        spoilt = []
        for state, other in [
            (("by", ("field", "b", "x"), ((129, 255, "t"), (7, 7, "u")), "refuse"), ("go", "u")),
            (("by", ("field", "b", "x"), ((67, 255, "t"),), "u"),
                ("by", ("field", "a", "y"), ((0, 3, "accept"),), "refuse")),
            (("by", ("field", "a", "z"), ((1, 1, "refuse"), (0, 7, "t"), (0, 1, "u")), "t"), ("by", IN, (), "refuse")),
            (("by", ("field", "b", "x"), ((1, 255, "t"),), "refuse"),
             ("by", ("field", "a", "x"), ((0, 7, "u"), (1, 1, "refuse")), "refuse")),
        ]:
            frame = (headers, (("s", "b", state), ("t", "a", other), ("u", None, ACCEPT)), ("a", "b"))
            self.assertIs(is_frame(frame), True)
            taken, met, lost_one = set(), set(), False
            for packet in packets:
                way, _, _ = walk(frame, packet)
                met.update(way)
                if way[-1] == "accept":
                    taken.add(way)
                    lost_one = lost_one or sent(frame, *parsed(frame, packet)) != packet[1]
            self.assertEqual(ways(frame),
                tuple(sorted(taken, key=lambda way: ["stu".index(name) for name in way[:-1]])))
            self.assertEqual(dead_states(frame), tuple(name for name in "stu" if name not in met))
            self.told(frame, lost_one)
            spoilt.append(lost_one)
        self.assertEqual(spoilt, [True, True, False, True])

    def test_many_frames_against_all_words_of_their_places(self):
        found, gone = 0, 0
        for seed in range(1200):
            maker = Maker(seed)
            headers = tuple(
                (name, (("p", 4), ("q", 4), ("r", 8))[:maker.pick([2, 3])])
                for name in ("a", "b", "c")
            )
            frame = maker.frame(headers, most_states=6)
            rows = plain_rows(frame)
            at = [state[0] for state in frame[1]].index
            accepted = [row for row in rows if row[-1] == "accept"]
            self.assertEqual(ways(frame), tuple(sorted(accepted, key=lambda row: [at(name) for name in row[:-1]])))
            met = {name for row in rows for name in row}
            self.assertEqual(dead_states(frame), tuple(state[0] for state in frame[1] if state[0] not in met))
            for way in accepted:
                self.assertEqual(way_of(frame, packet_on(frame, way)), way)
            is_lost = any(plain_lost(frame, way) for way in accepted)
            self.told(frame, is_lost)
            found += len(accepted)
            gone += is_lost
        self.assertGreater(min(found, gone), 50)


def plain_lost(frame, way):
    """Whether a way loses a packet, told bit by bit from all words that each of its fields may have."""
    headers, parser, order = frame
    states = {state[0]: state for state in parser}
    fields, words, read = dict(headers), {}, []
    for name, aim in zip(way, way[1:]):
        _, header, onward = states[name]
        if header is not None:
            read.append(header)
        if onward[0] == "by" and onward[1] != IN and onward[1][1] in read:
            words[onward[1][1:]] = words_leading(onward, dict(fields[onward[1][1]])[onward[1][2]])[aim]

    def bits(names):
        return [(name, field, at) for name in names for field, width in fields[name] for at in reversed(range(width))]

    def told(bit):
        name, field, at = bit
        return [word >> at & 1 for word in words.get((name, field), range(2 ** dict(fields[name])[field]))]

    for one, other in zip(bits(read), bits([name for name in order if name in read])):
        if one[:2] == other[:2]:
            if told(one) != told(other):
                return True
        elif len(set(told(one) + told(other))) == 2:
            return True
    return False


class LeadTest(unittest.TestCase):
    def test_where_states_lead(self):
        for word, aim in [(7, "more"), (23, "more"), (39, "more"), (6, "accept"), (255, "accept"), (0, "accept")]:
            self.assertEqual(does_lead(FRAME, 0, word), aim)
        for word in (0, 7, 4294967295):
            self.assertEqual(does_lead(word=word, state=1, frame=FRAME), "accept")
        onward = [("go", "t"), ("refuse",), ("by", IN, ((1, 1, "u"), (3, 3, "t"), (0, 6, "v")), "refuse")]
        for at, told in enumerate([["t"] * 5, ["refuse"] * 5, ["v", "u", "refuse", "u", "refuse"]]):
            frame = byte_frame(("s", None, onward[at]), *[(name, None, ACCEPT) for name in "tuv"])
            self.assertEqual([does_lead(frame, 0, word) for word in range(5)], told)

    def test_words_are_those_of_the_place(self):
        wide = (("h", (("x", 32),)), ("g", (("x", 1), ("y", 7))))
        states = (
            ("s", "h", ("by", ("field", "h", "x"), ((1, 1, "t"),), "u")), ("t", None, ("by", IN, (), "u")),
            ("u", None, ("by", ("field", "g", "x"), ((1, 1, "v"),), "accept")), ("v", None, ("go", "w")),
            ("w", None, ACCEPT),
        )
        frame = (wide, states, ("g", "h"))
        for state, most in [(0, 4294967295), (1, 255), (2, 1), (3, 4294967295), (4, 4294967295)]:
            for word in (0, 1, most):
                does_lead(frame, state, word)
            for word in [most + 1, -1, True, False, None, "0", (0,), [0], 10 ** 399] + JUNK:
                assert_raises(self, InvalidWord, "given", word, does_lead, frame, state, word)


class WrongArgumentsTest(unittest.TestCase):
    def test_wrong_frames_are_told(self):
        for value in wrong_frames():
            assert_raises(self, InvalidFrame, "given", value, ways, value)
            assert_raises(self, InvalidFrame, "given", value, packet_on, value, ("start", "accept"))
            assert_raises(self, InvalidFrame, "given", value, dead_states, frame=value)
            assert_raises(self, InvalidFrame, "given", value, lost, frame=value)
            assert_raises(self, InvalidFrame, "given", value, does_lead, value, 0, 0)

    def test_wrong_ways_are_told(self):
        wrong = JUNK + [
            (), ("start",), ("accept",), ("more", "accept"), ("start", "refuse"), ("start", "more", "refuse"),
            ["start", "accept"], ("start", "accept", "accept"), ("start", "start", "accept"), ("start", None),
            (None, "accept"), ("start", "more"), "start", ("start", ["accept"]), (("start", "accept"),),
            ("start", "Accept"), (0, 1), ("start", "accept", "more"), {"start": "accept"}, ("start", True),
            ("start", b"accept"), ("", ""),
        ]
        for value in wrong:
            assert_raises(self, InvalidWay, "given", value, packet_on, FRAME, value)
        hidden = byte_frame(("s", "a", asked("a", [(0, 0, "t"), (1, 1, "u")], "u")), ("t", None, ACCEPT),
            ("u", None, ACCEPT))
        assert_raises(self, InvalidWay, "given", ("s", "u", "accept"), packet_on, hidden, ("s", "u", "accept"))

    def test_wrong_states_are_told(self):
        for value in JUNK + [2, -1, True, False, None, "0", "start", (0,), [0], 10 ** 399]:
            assert_raises(self, InvalidNumber, "given", value, does_lead, FRAME, value, 0)

    def test_the_first_wrong_parameter_is_told(self):
        assert_raises(self, InvalidFrame, "given", 1, packet_on, 1, 2)
        assert_raises(self, InvalidFrame, "given", 1, packet_on, way=2, frame=1)
        assert_raises(self, InvalidWay, "given", 2, packet_on, way=2, frame=FRAME)
        assert_raises(self, InvalidFrame, "given", 1, does_lead, 1, 2, None)
        assert_raises(self, InvalidNumber, "given", 2, does_lead, FRAME, 2, None)
        assert_raises(self, InvalidNumber, "given", 2, does_lead, word=None, state=2, frame=FRAME)
        assert_raises(self, InvalidWord, "given", None, does_lead, word=None, state=1, frame=FRAME)

    def test_equal_calls_return_equal_results(self):
        for frame in (FRAME, TURNED, (HEADERS, FRAME[1], ("base", "tag"))):
            self.assertEqual(ways(frame), ways(tuple(list(frame))))
            self.assertEqual(lost(frame), lost(tuple(list(frame))))
            self.assertEqual([packet_on(frame, way) for way in ways(frame)],
                [packet_on(frame, way) for way in ways(frame)])
            self.assertIsInstance(ways(frame), tuple)
            self.assertIsInstance(dead_states(frame), tuple)


if __name__ == "__main__":
    unittest.main()
