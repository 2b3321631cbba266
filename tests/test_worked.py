"""Points 17 and 19: packets worked, singly and in rows; which values are contents and cells."""

import unittest

from switchstages.errors import InvalidCells, InvalidContents, InvalidPacket, InvalidPackets, InvalidProgram
from switchstages.parsers import parse, send
from switchstages.programs import (
    behind, boxes_of, first_cells, is_cells, is_contents, is_program, widths_of, worked, worked_all,
)
from tests.makers import Maker
from tests.samples import JUNK, WRONG_NAMES, assert_raises
from tests.small import (
    AGED, DROP, FILLED, GONE, HEADS, HOPS, IN, KIND, MARK, NONE, OUT, SEND, SMALL, TTL, WALK, controlled, small_with,
)
from tests.test_headers import wrong_packets

EMPTY = ((),)
NO_CONTENTS = [value for value in JUNK if value != EMPTY]


def keyed(*kinds, width=8, room=4):
    """A program whose table has keys of these kinds, each of this width."""
    own = tuple((f"l{at}", width) for at in range(len(kinds)))
    table = ("ways", tuple((("local", name), kind) for (name, _), kind in zip(own, kinds)), ("send", "drop"),
        ("drop", ()))
    return small_with(locals=own, tables=(table + (room,),), control=())


class WorkedTest(unittest.TestCase):
    def test_the_examples(self):
        none = first_cells(SMALL)
        self.assertEqual([is_contents(SMALL, FILLED), is_contents(SMALL, ())], [True, False])
        told = [none] + [worked(SMALL, FILLED, none, (7, taken)) for taken in ((0, 9, 5), (0,), (0, 0))]
        self.assertEqual(told, [NONE, ((3, (0, 8, 5)), NONE), ("refused", NONE), ("gone", NONE)])
        self.assertEqual(
            worked_all(SMALL, FILLED, none, ((7, (1, 70, 6, 5)), (7, (1, 9, 6)))),
            (((4, (1, 70, 0, 5)), (3, (1, 9, 1))), ((0, 0, 2, 0),)),
        )
        wrong = ((0, 0, 0),)
        assert_raises(self, InvalidCells, "given", wrong, worked, SMALL, FILLED, wrong, (7, ()))

    def test_what_is_refused_leaves_the_cells(self):
        program = controlled(("touch", "hits", 0, "add", 1, None), ("set", OUT, 9))
        cells = ((1, 2, 3, 4),)
        self.assertEqual(worked(program, FILLED, cells, (7, (1, 2))), ("refused", cells))
        self.assertEqual(worked(program, FILLED, cells, (7, (0, 2))), ((9, (0, 2)), ((2, 2, 3, 4),)))

    def test_what_is_gone_changes_cells_all_the_same(self):
        touch = ("touch", "hits", 0, "add", 1, None)
        told = worked(controlled(("set", GONE, 1), touch, ("set", OUT, 5)), FILLED, NONE, (7, (0, 2)))
        self.assertEqual(told, ("gone", ((1, 0, 0, 0),)))
        self.assertEqual(worked(controlled(("set", GONE, 1), ("set", GONE, 2)), FILLED, NONE, (7, (0, 2))),
            ((0, (0, 2)), NONE))
        self.assertEqual(worked(controlled(("set", GONE, IN)), FILLED, NONE, (7, (0, 2)))[0], "gone")
        self.assertEqual(worked(controlled(("set", GONE, IN)), FILLED, NONE, (6, (0, 2)))[0], (0, (0, 2)))

    def test_in_is_where_the_packet_came_in_and_all_else_is_0(self):
        sums = ("add", ("add", OUT, GONE), ("local", "old"))
        self.assertEqual(worked(controlled(("set", OUT, ("add", IN, sums))), FILLED, NONE, (77, (0, 2)))[0][0], 77)
        self.assertEqual(worked(controlled(), FILLED, NONE, (77, (0, 2)))[0], (0, (0, 2)))
        self.assertEqual(worked(controlled(("set", OUT, 511)), FILLED, NONE, (77, (0, 2)))[0][0], 255)

    def test_headers_put_and_struck_change_how_much_is_sent(self):
        rest = (9, 8)
        for items, came, went in [
            ((("put", "tag"),), (0, 2), (0, 2, 0)), ((("put", "tag"), ("set", MARK, 5)), (0, 2), (0, 2, 5)),
            ((("strike", "base"),), (0, 2), ()), ((("strike", "tag"),), (1, 2, 3), (1, 2)),
            ((("strike", "base"),), (1, 2, 3), (3,)), ((("strike", "base"), ("put", "base")), (1, 2, 3), (0, 0, 3)),
            ((("put", "tag"),), (1, 2, 3), (1, 2, 0)), ((("set", KIND, 0),), (1, 2, 3), (0, 2, 3)),
        ]:
            self.assertEqual(worked(controlled(*items), FILLED, NONE, (7, came + rest))[0], (0, went + rest))

    def test_the_held_headers_are_sent_in_order(self):
        program = small_with(order=("tag", "base"), control=())
        self.assertEqual(worked(program, FILLED, NONE, (7, (1, 2, 3, 4)))[0], (0, (3, 1, 2, 4)))
        self.assertEqual(worked(program, FILLED, NONE, (7, (0, 2, 3, 4)))[0], (0, (0, 2, 3, 4)))

    def test_as_many_bytes_as_can_be(self):
        packet = (7, (1, 2, 3) + (5,) * 125)
        self.assertEqual(worked(controlled(), FILLED, NONE, packet)[0], (0, packet[1]))
        four = (("w", 32), ("x", 32), ("y", 32), ("z", 32))
        headers = tuple((f"h{at}", four) for at in range(6))
        order = tuple(name for name, _ in headers)
        program = (headers, (), (("a", None, ("accept",)),), order, (), (DROP,), (),
            tuple(("put", name) for name in order))
        self.assertEqual(worked(program, (), (), (7, (5,) * 128))[0], (0, (0,) * 96 + (5,) * 128))
        self.assertEqual(worked(program, (), (), (7, ()))[0], (0, (0,) * 96))

    def test_a_field_asked_ahead_of_its_header_counts_by_0(self):
        parser = (("a", None, ("by", KIND, ((0, 255, "b"),), "refuse")), ("b", "base", ("accept",)))
        self.assertEqual(worked(small_with(parser=parser), FILLED, NONE, (7, (9, 2)))[0], (3, (9, 1)))


class RowsTest(unittest.TestCase):
    def test_rows_of_0_1_and_100_packets(self):
        packet = (7, (1, 9, 6))
        self.assertEqual(worked_all(SMALL, FILLED, NONE, ()), ((), NONE))
        self.assertEqual(worked_all(SMALL, FILLED, NONE, (packet,)), (((3, (1, 9, 0)),), ((0, 0, 1, 0),)))
        told, cells = worked_all(packets=(packet,) * 100, cells=NONE, contents=FILLED, program=SMALL)
        self.assertEqual(told, tuple((3, (1, 9, at)) for at in range(100)))
        self.assertEqual(cells, ((0, 0, 100, 0),))

    def test_101_packets_are_too_many(self):
        packets = ((7, (1, 9, 6)),) * 101
        assert_raises(self, InvalidPackets, "index", None, worked_all, SMALL, FILLED, NONE, packets)

    def test_rows_without_packets_are_told(self):
        for value in JUNK:
            assert_raises(self, InvalidPackets, "index", 0 if isinstance(value, tuple) else None, worked_all, SMALL,
                          FILLED, NONE, value)
        right = (7, (1,))
        for value in wrong_packets():
            assert_raises(self, InvalidPackets, "index", 0, worked_all, SMALL, FILLED, NONE, (value,))
            assert_raises(self, InvalidPackets, "index", 2, worked_all, SMALL, FILLED, NONE,
                (right, right, value, value))
            assert_raises(self, InvalidPackets, "index", 99, worked_all, SMALL, FILLED, NONE, (right,) * 99 + (value,))
        for value in [[right], right, {right: 1}]:
            index = 0 if isinstance(value, tuple) else None
            assert_raises(self, InvalidPackets, "index", index, worked_all, packets=value, cells=NONE, contents=FILLED,
                          program=SMALL)

    def test_two_rows_are_worked_as_one(self):
        touched = 0
        for seed in range(200):
            maker = Maker(seed)
            program = maker.program()
            boxes = [("field",) + box if len(box) == 2 and box[0] != "local" else box for box in boxes_of(program)]
            contents = maker.contents(program, dict(zip(boxes, widths_of(program))))
            packets = tuple(maker.packet() for _ in range(12))
            outcomes, cells = worked_all(program, contents, first_cells(program), packets)
            touched += cells != first_cells(program)
            for cut in (0, 1, 6, 11, 12):
                begun, between = worked_all(program, contents, first_cells(program), packets[:cut])
                ended, last = worked_all(program, contents, between, packets[cut:])
                self.assertEqual((begun + ended, last), (outcomes, cells))
            now, told = first_cells(program), []
            for packet in packets:
                outcome, now = worked(program, contents, now, packet)
                told.append(outcome)
            self.assertEqual((tuple(told), now), (outcomes, cells))
            self.assertTrue(is_cells(program, cells))
        self.assertGreater(touched, 20)

    def test_a_packet_is_parsed_then_the_control_is_done_then_it_is_sent(self):
        sorts = set()
        for seed in range(200):
            maker = Maker(seed)
            program = maker.program()
            frame = (program[0], program[2], program[3])
            contents, cells = ((),) * len(program[6]), maker.cells(program)
            for _ in range(6):
                packet = maker.packet()
                outcome, left = worked(program, contents, cells, packet)
                sorts.add(outcome if isinstance(outcome, str) else "sent")
                parsed = parse(frame, packet)
                if parsed is None:
                    self.assertEqual((outcome, left), ("refused", cells))
                    continue
                filling = (packet[0], 0, 0) + (0,) * len(program[1])
                for (_, fields), words in zip(program[0], parsed[0]):
                    filling += (0,) * (1 + len(fields)) if words is None else (1,) + words
                told, then = behind(program, contents, cells, filling)
                boxes = dict(zip(boxes_of(program), told))
                fields = tuple(
                    tuple(boxes[(name, field)] for field, _ in parts) if boxes[(name,)] == 1 else None
                    for name, parts in program[0]
                )
                sent = "gone" if told[2] == 1 else (told[1], send(frame, fields, parsed[1]))
                self.assertEqual((outcome, left), (sent, then))
        self.assertEqual(sorts, {"refused", "gone", "sent"})

    def test_without_touches_each_packet_is_worked_by_itself(self):
        program = small_with(control=(("table", "ways"),) + AGED)
        packets = tuple((at, (at % 3, at * 20 % 256, at)) for at in range(20))
        told, cells = worked_all(program, FILLED, NONE, packets)
        self.assertEqual((told, cells), (tuple(worked(program, FILLED, NONE, packet)[0] for packet in packets), NONE))


class ContentsTest(unittest.TestCase):
    def told(self, program, right, wrong):
        """That these entries for the table are right, those wrong, whatever entries stand ahead of them."""
        self.assertIs(is_program(program), True)
        first = right[:1]
        for entry in right:
            self.assertIs(is_contents(program, ((entry,),)), True, entry)
            self.assertIs(is_contents(program, (tuple(first) + (entry,),)), True, entry)
        for entry in wrong:
            self.assertIs(is_contents(program, ((entry,),)), False, entry)
            self.assertIs(is_contents(program, (tuple(first) + (entry,),)), False, entry)

    def seek(self, program, right, wrong):
        """The same, told by what the entries seek by one key."""
        self.told(program, [((part,), "drop", ()) for part in right], [((part,), "drop", ()) for part in wrong])

    def test_exact(self):
        self.seek(keyed("exact"), [0, 1, 255], [256, -1, True, False, None, "1", (1,), [1], (1, 8), 10 ** 399])
        self.seek(keyed("exact", width=1), [0, 1], [2, True])
        self.seek(keyed("exact", width=32), [0, 4294967295], [4294967296])

    def test_prefix(self):
        wrong = [
            (255, 7), (1, 0), (128, 0), (1, 7), (64, 1), (0, 9), (256, 8), (0, -1), (0, True), (0, None), (True, 8),
            (0,), (0, 8, 8), [0, 8], 0, None, ("0", 8), ((0,), 8), (-128, 1), (0, "8"), (None, 0), (256, 0),
        ]
        self.seek(keyed("prefix"), [(0, 0), (0, 8), (255, 8), (254, 7), (128, 1), (192, 2), (192, 8), (0, 3)], wrong)
        self.seek(keyed("prefix", width=32), [(4294967295, 32), (2147483648, 1), (0, 0)],
            [(2147483648, 0), (1, 31), (0, 33)])
        self.seek(keyed("prefix", width=1), [(1, 1), (0, 1), (0, 0)], [(1, 0), (0, 2)])

    def test_mask(self):
        wrong = [
            (1, 0), (128, 127), (255, 254), (256, 256), (0, 256), (0, -1), (-1, 255), (True, 1), (0, True), (0,),
            (0, 1, 1), [0, 1], 0, None, (None, 1), (0, None), ("0", 1), (0, (1,)), (256, 511),
        ]
        self.seek(keyed("mask"), [(0, 0), (0, 255), (255, 255), (5, 7), (128, 128), (0, 128)], wrong)
        self.seek(keyed("mask", width=32), [(4294967295, 4294967295), (0, 4294967295)],
            [(0, 4294967296), (1, 4294967294)])

    def test_range(self):
        wrong = [
            (1, 0), (255, 254), (0, 256), (256, 256), (-1, 0), (False, 1), (0, True), (0,), (0, 1, 2), [0, 1], 0, None,
            (None, 1), (0, None), ("0", 1), (0, "1"), (0, (1,)),
        ]
        self.seek(keyed("range"), [(0, 0), (0, 255), (255, 255), (7, 8), (0, 1)], wrong)
        self.seek(keyed("range", width=32), [(0, 4294967295), (4294967295, 4294967295)], [(0, 4294967296)])

    def test_several_keys(self):
        program = keyed("exact", "mask", "range", width=16)
        right = [((65535, (0, 0), (0, 65535)), "drop", ()), ((0, (65535, 65535), (65535, 65535)), "drop", ())]
        wrong = [
            ((1, (0, 0)), "drop", ()), ((1, (0, 0), (0, 1), 1), "drop", ()), ((65536, (0, 0), (0, 1)), "drop", ()),
            ((1, (1, 0), (0, 1)), "drop", ()), ((1, (0, 0), (1, 0)), "drop", ()), (((0, 0), 1, (0, 1)), "drop", ()),
            ([1, (0, 0), (0, 1)], "drop", ()), ((), "drop", ()), (1, "drop", ()), (None, "drop", ()),
        ]
        self.told(program, right, wrong)

    def test_actions_and_args(self):
        right = [((1,), "drop", ()), ((1,), "send", (0,)), ((1,), "send", (255,))]
        wrong = [
            ((1,), "send", ()), ((1,), "send", (256,)), ((1,), "send", (-1,)), ((1,), "send", (True,)),
            ((1,), "send", [1]), ((1,), "send", (1, 1)), ((1,), "drop", (1,)), ((1,), "drop", None), ((1,), "none", ()),
            ((1,), None, ()), ((1,), ["drop"], ()), ((1,), "drop"), ((1,), "drop", (), ()), [(1,), "drop", ()],
            (1, "drop", ()), (), None, ((1,), "send", 1), ((1,), ("send", (1,))), ((1,), "send", (None,)),
            ((1,), "send", ("1",)), ((1,), "Send", (1,)),
        ]
        self.told(keyed("exact"), right, wrong + [((1,), name, ()) for name in WRONG_NAMES] + JUNK)
        other = small_with(tables=(HOPS[:2] + (("drop",),) + HOPS[3:],))
        self.assertIs(is_contents(other, (((((1, 2),), "drop", ()),),)), True)
        self.assertIs(is_contents(other, (((((1, 2),), "send", (1,)),),)), False)

    def test_up_to_room_entries(self):
        for room in (1, 2, 31, 32):
            program, entry = keyed("exact", room=room), ((1,), "drop", ())
            told = [is_contents(program, ((entry,) * many,)) for many in (0, 1, room, room + 1, room + 2)]
            self.assertEqual(told, [True, True, True, False, False])

    def test_entries_for_each_table(self):
        two = small_with(tables=(HOPS, ("more",) + HOPS[1:]))
        none = small_with(tables=(), control=())
        wrong = JUNK + [[], [()], ((), (), ()), (None,), (None, ()), ([], ()), ((), [])]
        self.assertEqual([is_contents(two, value) for value in [((), ()), FILLED + EMPTY, FILLED + FILLED]], [True] * 3)
        self.assertEqual([is_contents(two, value) for value in wrong + [(), EMPTY, FILLED]], [False] * (len(wrong) + 3))
        self.assertEqual([is_contents(none, value) for value in [(), EMPTY, None, []]], [True, False, False, False])
        for value in NO_CONTENTS + [(), ((), ()), (FILLED[0][0],), (list(FILLED[0]),), list(FILLED), FILLED[0]]:
            self.assertIs(is_contents(program=SMALL, value=value), False, value)

    def test_cells(self):
        program = small_with(registers=(("hits", 16, 2), ("more", 1, 1), ("wide", 32, 1)))
        right = [((0, 0), (0,), (0,)), ((65535, 1), (1,), (4294967295,))]
        wrong = JUNK + [
            (), ((0, 0), (0,)), ((0, 0), (0,), (0,), (0,)), ((0,), (0,), (0,)), ((0, 0, 0), (0,), (0,)),
            ((65536, 0), (0,), (0,)), ((0, 0), (2,), (0,)), ((0, 0), (0,), (4294967296,)), ((0, -1), (0,), (0,)),
            ((0, 0), (True,), (0,)), ((0, 0), (None,), (0,)), ([0, 0], (0,), (0,)), [(0, 0), (0,), (0,)],
            ((0, 0), 0, (0,)), ((0, 0), (), (0,)), ((0, "0"), (0,), (0,)), ((0, (0,)), (0,), (0,)), (0, 0, 0, 0),
        ]
        self.assertEqual([is_cells(program, value) for value in right], [True, True])
        for value in wrong:
            self.assertIs(is_cells(value=value, program=program), False, value)
        self.assertEqual([is_cells(SMALL, value) for value in (NONE, (), NONE[0], (NONE,))],
            [True, False, False, False])


class WrongArgumentsTest(unittest.TestCase):
    def test_wrong_programs_are_told(self):
        for value in JUNK + [SMALL[:7], list(SMALL), controlled(("put", "none")), (HEADS, (), WALK)]:
            assert_raises(self, InvalidProgram, "given", value, is_contents, value, ())
            assert_raises(self, InvalidProgram, "given", value, is_cells, value, ())
            assert_raises(self, InvalidProgram, "given", value, worked, value, (), (), (1, ()))
            assert_raises(self, InvalidProgram, "given", value, worked_all, value, (), (), ())
            assert_raises(self, InvalidProgram, "given", value, behind, value, (), (), ())

    def test_wrong_contents_and_cells_are_told(self):
        for value in NO_CONTENTS + [(), ((), ()), list(FILLED), (((((1, 64),), "send", (256,)),),),
            (((((1, 64),), "send", ()),),)]:
            assert_raises(self, InvalidContents, "given", value, worked, SMALL, value, NONE, (1, ()))
            assert_raises(self, InvalidContents, "given", value, worked_all, SMALL, value, NONE, ())
            assert_raises(self, InvalidContents, "given", value, behind, SMALL, value, NONE, ())
        for value in JUNK + [(), NONE * 2, list(NONE), ((0, 0, 0),), ((0, 0, 0, 65536),), ((0, 0, 0, True),), NONE[0]]:
            assert_raises(self, InvalidCells, "given", value, worked, SMALL, FILLED, value, (1, ()))
            assert_raises(self, InvalidCells, "given", value, worked_all, SMALL, FILLED, value, ())
            assert_raises(self, InvalidCells, "given", value, behind, SMALL, FILLED, value, ())

    def test_wrong_packets_are_told(self):
        for value in wrong_packets():
            assert_raises(self, InvalidPacket, "given", value, worked, SMALL, FILLED, NONE, value)

    def test_the_first_wrong_parameter_is_told(self):
        for call, last, error in [(worked, "packet", InvalidPacket), (worked_all, "packets", InvalidPackets)]:
            assert_raises(self, InvalidProgram, "given", 1, call, 1, 2, 3, 4)
            assert_raises(self, InvalidProgram, "given", 1, call, **{last: 4}, cells=3, contents=2, program=1)
            assert_raises(self, InvalidContents, "given", 2, call, **{last: 4}, cells=3, contents=2, program=SMALL)
            assert_raises(self, InvalidCells, "given", 3, call, **{last: 4}, cells=3, contents=FILLED, program=SMALL)
            attribute, value = ("given", 4) if error is InvalidPacket else ("index", None)
            assert_raises(self, error, attribute, value, call, **{last: 4}, cells=NONE, contents=FILLED, program=SMALL)
        assert_raises(self, InvalidProgram, "given", 1, is_contents, value=2, program=1)
        assert_raises(self, InvalidProgram, "given", 1, is_cells, value=2, program=1)

    def test_equal_calls_return_equal_results(self):
        packets = ((7, (1, 70, 6, 5)), (7, (1, 9, 6)), (7, (0,)), (7, (0, 0)))
        told = worked_all(SMALL, FILLED, NONE, packets)
        self.assertEqual(told, worked_all(tuple(SMALL), tuple(FILLED), ((0, 0, 0, 0),), tuple(list(packets))))
        self.assertIsInstance(told[0], tuple)
        self.assertIsInstance(told[1][0], tuple)
        self.assertEqual([SEND[0], TTL[2]], ["send", "ttl"])


if __name__ == "__main__":
    unittest.main()
