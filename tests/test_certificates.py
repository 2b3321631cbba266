"""The certificates: claims with papers that are accepted, and of two claims the one that is so."""

import unittest

from switchstages import certificates
from switchstages.certificates import (
    certify_back, certify_before, certify_done, certify_entry, certify_flow, certify_laid, certify_layout,
        certify_parse,
    certify_prefixes, certify_read, certify_sent, certify_state, certify_tables, certify_way, certify_worked,
)
from switchstages.checker import accepts
from switchstages.errors import (
    InvalidCells, InvalidChip, InvalidComing, InvalidContents, InvalidEntries, InvalidFilling, InvalidFrame,
        InvalidKeys,
    InvalidLayout, InvalidNumber, InvalidPacket, InvalidPackets, InvalidProgram, InvalidUnits, InvalidWay, InvalidWord,
    InvalidWriting, NotShown, TooMany,
)
from switchstages.layouts import early, fitted, leans_on, wrong_in
from switchstages.keyforms import parting
from switchstages.parsers import parse
from switchstages.programs import worked_all
from switchstages.ranges import prefixes_of
from switchstages.tables import hit_by, idle_in
from switchstages.texts import show_program
from switchstages.units import units_of
from switchstages.ways import dead_states, lost, ways
from tests.claimed import (
    AGAINST, ARRIVALS, DEAD, OTHER_MADE, PACKETS, ROW, THROUGH, TWICE, TWICE_MADE, TWO_MADE, TWO_TOUCHES, WIDE_CHIP,
)
from tests.madeup import BASE, cases, laid_about
from tests.makers import Maker
from tests.samples import FRAME, JUNK, TURNED, assert_raises
from tests.small import FILLED, NONE, SMALL, full_program
from tests.test_flows import COMING, FIRST
from tests.test_interface import LISTED
from tests.test_layouts import CHIP, HASTY, HURRIED, LAID, MADE, ONE, asks, assert_given, made_of
from tests.test_tables import KEYS, THREE, WRONG_KEYS
from tests.test_units import filling_for, wide_program

UNSENT = (7, 0, 0, 0, 1, 0, 9, 0, 0)
NAMES = LISTED["certificates"]
# All of them with arguments that are right, and the kinds of the claims that come of them.
RIGHT = [
    (certify_parse, [FRAME, (1, (7, 35))], "parsed"), (certify_parse, [FRAME, (1, (7,))], "refused"),
    (certify_back, [FRAME], "comes back"), (certify_back, [TURNED], "lost"),
    (certify_way, [FRAME, ("start", "more", "accept")], "taken"),
        (certify_way, [FRAME, ("more", "accept")], "not taken"),
    (certify_state, [FRAME, 1], "come to"), (certify_state, [FRAME, 0], "come to"), (certify_state, [DEAD, 1], "dead"),
    (certify_read, [show_program(SMALL)], "read"), (certify_read, ["header base kind"], "not read"),
    (certify_worked, [SMALL, FILLED, NONE, PACKETS], "worked"), (certify_worked, [SMALL, FILLED, NONE, ()], "worked"),
    (certify_tables, [KEYS, THREE, KEYS, THREE[:2]], "tell alike"),
    (certify_tables, [KEYS, THREE, KEYS, THREE[:1]], "part first"), (certify_entry, [KEYS, THREE, 2], "idle"),
    (certify_entry, [KEYS, THREE, 1], "looked up"), (certify_prefixes, [4, 3, 12, 4], "held by"),
    (certify_prefixes, [4, 3, 12, 3], "not held by"), (certify_done, [SMALL, MADE, FILLED, NONE, FIRST], "done alike"),
    (certify_done, [SMALL, OTHER_MADE, FILLED, NONE, UNSENT], "done otherwise"),
    (certify_layout, [SMALL, MADE, LAID], "right"), (certify_layout, [SMALL, MADE, HASTY], "not right"),
    (certify_sent, [SMALL, LAID, FILLED, NONE, ARRIVALS], "sent alike"),
    (certify_sent, [SMALL, HASTY, FILLED, NONE, ARRIVALS], "sent otherwise"),
    (certify_flow, [SMALL, FILLED, MADE, LAID, NONE, COMING], "flows"),
    (certify_flow, [TWO_TOUCHES, FILLED, TWO_MADE, (1, (0, 0)), NONE, COMING], "clashes"),
    (certify_before, [SMALL, MADE, 7, 4], "before"), (certify_before, [SMALL, MADE, 7, 3], "not before"),
    (certify_laid, [SMALL, MADE, 1, CHIP, 1], "laid"), (certify_laid, [SMALL, MADE, 1, (3, 11, 1, 4, 99), 1],
        "not laid"),
]


class CertificatesTest(unittest.TestCase):
    def certified(self, call, *args):
        """The claim, the paper being accepted."""
        claim, paper = call(*args)
        self.assertIs(accepts(claim, paper), True, (claim[0], paper))
        return claim

    def test_the_examples(self):
        told = [certify_back(FRAME)[0][0], certify_back(TURNED)[0][0], certify_way(FRAME, ("more", "accept"))[0][0],
            certify_state(FRAME, 1)[0][0], certify_read("header base kind")]
        self.assertEqual(told, ["comes back", "lost", "not taken", "come to",
            (("not read", "header base kind", 16), ())])
        alike, parted = ("tell alike", KEYS, THREE, KEYS, THREE[:2]), ("part first", KEYS, THREE, KEYS, THREE[:1],
            (0, 2))
        told = [certify_tables(KEYS, THREE, KEYS, THREE[:2]) == (alike, ROW),
            certify_tables(KEYS, THREE, KEYS, THREE[:1]) == (parted, ((4, 0),)), certify_entry(KEYS, THREE, 2)[1],
            certify_prefixes(4, 3, 12, 4)[0][0]]
        self.assertEqual(told, [True, True, ((1, 0), (1, 1)), "held by"])
        told = [certify_layout(SMALL, MADE, HASTY)[1] == AGAINST, certify_done(SMALL, MADE, FILLED, NONE, FIRST)[0][0],
            certify_before(SMALL, MADE, 7, 3)[0][0], certify_before(SMALL, MADE, 7, 4)[0][0]]
        self.assertEqual(told, [True, "done alike", "not before", "before"])
        told = [certify_laid(SMALL, MADE, 1, (3, 11, 1, 4, 99), 1)[0][0],
            certify_laid(SMALL, MADE, 1, (4, 5, 1, 4, 70), 1)[0][0]]
        self.assertEqual(told, ["not laid", "laid"])
        told = [certify_sent(SMALL, LAID, FILLED, NONE, ARRIVALS)[0][0],
            certify_sent(SMALL, HASTY, FILLED, NONE, ARRIVALS)[0][0]]
        self.assertEqual(told, ["sent alike", "sent otherwise"])
        with self.assertRaises(NotShown):
            certify_sent(SMALL, HASTY, FILLED, NONE, ARRIVALS[:1])

    def test_both_claims_of_each_pair(self):
        for call, args, kind in RIGHT:
            claim = self.certified(call, *args)
            self.assertEqual(claim[0], kind)
            self.assertEqual(call(**dict(zip(NAMES[call.__name__], args))), call(*args))
            passed = claim[1:1 + len(args)]
            if kind not in ("done alike", "done otherwise", "sent alike", "sent otherwise", "laid", "not laid"):
                self.assertEqual(passed, tuple(args)[:len(passed)])

    def test_the_parts_of_claims(self):
        self.assertEqual(certify_parse(FRAME, (1, (23, 35, 9))), (("parsed", FRAME, (1, (23, 35, 9)), ((23,), (1, 3)),
            (9,)),
            ()))
        self.assertEqual(certify_worked(SMALL, FILLED, NONE, PACKETS)[0][5:], worked_all(SMALL, FILLED, NONE, PACKETS))
        self.assertEqual(certify_flow(SMALL, FILLED, MADE, LAID, NONE, COMING)[0][7:], THROUGH)
        self.assertEqual(certify_flow(TWO_TOUCHES, FILLED, TWO_MADE, (1, (0, 0)), NONE, COMING)[0][7:],
            (0, ("register", 0)))
        self.assertEqual(certify_done(SMALL, OTHER_MADE, FILLED, NONE, UNSENT), (("done otherwise", SMALL, OTHER_MADE),
            (FILLED, NONE, UNSENT)))
        self.assertEqual(certify_sent(SMALL, HASTY, FILLED, NONE, ARRIVALS),
            (("sent otherwise", SMALL, HASTY), (FILLED, NONE,
            ARRIVALS)))
        self.assertEqual(certify_laid(SMALL, MADE, 1, CHIP, 1), (("laid", SMALL, MADE, 1, CHIP), LAID))
        self.assertEqual(certify_before(SMALL, MADE, 7, 4), (("before", SMALL, MADE, 7, 4), LAID))
        self.assertEqual(certify_layout(SMALL, MADE, HURRIED)[1], ("late", 4, 11))

    def test_frames(self):
        for seed in range(200):
            maker = Maker(seed)
            frame = maker.frame()
            self.assertEqual(self.certified(certify_back, frame)[0], "comes back" if lost(frame) is None else "lost")
            packet = maker.packet()
            self.assertEqual(self.certified(certify_parse, frame, packet)[0], "refused"
                if parse(frame, packet) is None else
                "parsed")
            for at, state in enumerate(frame[1]):
                told = "dead" if state[0] in dead_states(frame) else "come to"
                self.assertEqual(self.certified(certify_state, frame, at)[0], told)
            for way in ways(frame):
                self.assertEqual(self.certified(certify_way, frame, way)[0], "taken")
                for other in [way[1:], way[:-2] + way[-1:], ("x",) + way]:
                    if 2 <= len(other) <= 9:
                        self.assertEqual(self.certified(certify_way, frame, other)[0], "taken" if other
                            in ways(frame) else
                            "not taken")

    def test_programs_read_and_worked(self):
        for seed in range(60):
            maker = Maker(seed)
            program = maker.program()
            writing = show_program(program)
            self.assertEqual(self.certified(certify_read, writing)[0], "read")
            at = maker.upto(len(writing) - 1)
            self.assertIn(self.certified(certify_read, writing[:at] + writing[at + 1:])[0], ("read", "not read"))
            self.assertIn(self.certified(certify_read, writing[:at])[0], ("read", "not read"))

    def test_tables(self):
        met = {}
        for seed in range(300):
            maker = Maker(seed)
            keys = maker.keys(8)
            entries, others = maker.entries(keys, 6), maker.entries(keys, 6)
            others = others if seed % 2 else tuple(one for one in entries if maker.upto(5))
            claim = self.certified(certify_tables, keys, entries, keys, others)
            words = parting(keys, entries, others)
            self.assertEqual(claim[0], "tell alike" if words is None else "part first")
            self.assertEqual(claim[5:], () if words is None else (words,))
            met[claim[0]] = met.get(claim[0], 0) + 1
            for index in range(len(entries)):
                claim = self.certified(certify_entry, keys, entries, index)
                self.assertEqual(claim[0], "idle" if index in idle_in(keys, entries) else "looked up")
                met[claim[0]] = met.get(claim[0], 0) + 1
        self.assertTrue(all(met[kind] > 50 for kind in ("tell alike", "part first", "idle", "looked up")), met)

    def test_tables_of_other_kinds(self):
        ranges, masks = (("range", 3), ("exact", 2)), (("prefix", 3), ("mask", 2))
        one = ((((4, 7), 1), "a", ()),)
        claim, row = certify_tables(ranges, one, masks, ((((4, 1), (1, 3)), "a", ()),))
        # For words from 4 on the second key is looked at bit by bit.
        told = [piece for word in (4, 5, 6, 7) for piece in ((5, 4 * word), (5, 4 * word + 1), (4, 2 * word + 1))]
        self.assertEqual([claim[0], accepts(claim, row), row], ["tell alike", True, ((1, 0), *told)])
        self.assertEqual(self.certified(certify_tables, ranges, one, masks, ((((4, 1), (1, 1)), "a", ()),))[5], (4, 3))

    def test_400_and_401_pieces(self):

        keys = (("exact", 20), ("exact", 1))
        # One entry for one word: a piece for each bit, and two at the end.
        one = (((5, 1), "a", ()),)
        self.assertEqual(len(certify_tables(keys, one, keys, one)[1]), 22)
        keys = (("mask", 10), ("exact", 1))
        # All pairs of bits ahead are wanted, for the last bit tells.
        last = ((((0, 0), 1), "a", ()),)
        for call, args in [(certify_tables, (keys, last, keys, last)), (certify_entry, (keys, last * 2, 1))]:
            assert_given(self, 400, call, *args)
        for bits, told in [(7, True), (8, False)]:
            keys = (("mask", bits), ("exact", 1))
            if told:
                self.assertEqual(len(certify_tables(keys, last, keys, last)[1]), 2 ** (bits + 1))
                self.assertEqual(len(certify_entry(keys, last * 2, 1)[1]), 2 ** (bits + 1))
            else:
                assert_given(self, 400, certify_tables, keys, last, keys, last)
                # Those behind the first one that parts them, or looks it up, are not wanted.
                other = ((((0, 0), 1), "b", ()),)
                self.assertEqual(certify_tables(keys, last, keys, other), (("part first", keys, last, keys, other,
                    (0, 1)),
                    ((9, 0),)))
                self.assertEqual(certify_entry(keys, last, 0), (("looked up", keys, last, 0), (0, 1)))

    def test_just_400_pieces_and_one_more(self):
        keys = (("range", 9), ("exact", 1))
        met = []
        for high in range(190, 210):
            entries = ((((0, high), 1), "b", ()),)
            many = self.pieces(keys, entries)
            met.append(many)
            if many <= 400:
                claim, row = certify_tables(keys, entries, keys, entries)
                self.assertEqual([claim[0], len(row), accepts(claim, row)], ["tell alike", many, True])
                # An entry that is covered by the one ahead of it.
                self.assertEqual(len(certify_entry(keys, entries * 2, 1)[1]), many)
            else:
                assert_given(self, 400, certify_tables, keys, entries, keys, entries)
                assert_given(self, 400, certify_entry, keys, entries * 2, 1)
        self.assertTrue(400 in met and 401 in met, met)

    def pieces(self, keys, entries):
        """How many pieces are wanted, each one parted until its entries are settled word by word."""
        bits = sum(width for _, width in keys)
        width = keys[1][1]
        hits = [hit_by(keys, entries, (number >> width, number & (2 ** width - 1))) for number in range(2 ** bits)]
        left, found = [(0, 2 ** bits)], 0
        while left:
            low, high = left.pop()
            words = range(low, high)
            first = min([hits[at] for at in words if hits[at] is not None], default=None)
            # These entries have no words in common, so one is sure if it is looked up everywhere.
            if first is None or all(hits[at] == first for at in words):
                found += 1
            else:
                left += [(low, (low + high) // 2), ((low + high) // 2, high)]
        return found

    def test_prefixes(self):
        for width, low, high in [(1, 0, 1), (1, 1, 1), (4, 3, 12), (5, 1, 30), (32, 1, 4294967294),
            (32, 0, 4294967295)]:
            least = len(prefixes_of(width, low, high))
            for many in (0, least - 1, least, least + 1, 64):
                claim = self.certified(certify_prefixes, width, low, high, many)
                self.assertEqual(claim, ("held by" if many >= least else "not held by", width, low, high, many))

    def test_layouts_of_made_up_programs(self):
        met = {}
        for maker, made, told in cases(250, 9):
            layout = laid_about(maker, told)
            claim = self.certified(certify_layout, BASE, made, layout)
            self.assertEqual(claim[0], "right" if wrong_in(BASE, made, layout) is None else "not right")
            if not made[1]:
                continue
            unit, stage = maker.upto(len(made[1]) - 1), maker.upto(4)
            least = self.longest(made)[unit]
            try:
                claim = self.certified(certify_before, BASE, made, unit, stage)
                self.assertEqual(claim[0], "not before" if least > stage else "before")
            except NotShown:
                self.assertTrue(least <= stage <= early(BASE, made)[1][unit])
                claim = ("not shown",)
            met[claim[0]] = met.get(claim[0], 0) + 1
            chip = (1 + maker.upto(4), 1 + maker.upto(4), maker.upto(2), maker.pick([0, 4, 6, 40]), maker.upto(60))
            gap = 1 + maker.upto(2)
            try:
                claim = self.certified(certify_laid, BASE, made, gap, chip, 20)
                self.assertEqual(claim[0] == "laid", fitted(BASE, made, gap, chip, 20) is not None)
            except NotShown:
                self.assertIs(fitted(BASE, made, gap, chip, 20), None)
                claim = ("none laid",)
            met[claim[0]] = met.get(claim[0], 0) + 1
        self.assertTrue(all(met.get(kind, 0) > 0 for kind in ("before", "not before", "laid", "not laid", "not shown",
            "none laid")), met)

    def longest(self, made):
        chains = []
        for index in range(len(made[1])):
            chains.append(1 + max([chains[other] for other in leans_on(BASE, made, index)], default=0))
        return chains

    def test_programs_with_many_units(self):
        for seed in range(40):
            maker = Maker(seed)
            program = maker.program()
            made = units_of(program)
            contents = tuple(() for _ in program[6])
            cells, filling = maker.cells(program), filling_for(maker, program)
            self.assertEqual(self.certified(certify_done, program, made, contents, cells, filling)[0], "done alike")
            try:
                layout = early(program, made)
            except TooMany:
                continue
            arrivals = tuple((at * layout[0], maker.packet()) for at in range(4))
            self.assertEqual(self.certified(certify_sent, program, layout, contents, cells, arrivals)[0], "sent alike")
            if made[1]:
                unit = len(made[1]) - 1
                self.assertIn(self.certified(certify_before, program, made, unit, 63)[0], ("before", "not before"))

    def test_indexes_at_their_bounds(self):
        for frame in (FRAME, TURNED):
            for value in (2, 3):
                assert_raises(self, InvalidNumber, "given", value, certify_state, frame, value)
        self.assertEqual(self.certified(certify_state, DEAD, 2)[0], "come to")
        self.assertEqual(self.certified(certify_sent, SMALL, LAID, FILLED, NONE, ())[0], "sent alike")
        with self.assertRaises(NotShown):
            certify_sent(SMALL, HASTY, FILLED, NONE, ())
        many = tuple((at, PACKETS[2]) for at in range(981, 1001))
        self.assertEqual(self.certified(certify_sent, SMALL, LAID, FILLED, NONE, many)[0], "sent alike")

    def test_units_that_are_not_made_so(self):
        with self.assertRaises(NotShown):
            certify_done(SMALL, OTHER_MADE, FILLED, NONE, FIRST)
        longer = (MADE[0] + (1,), MADE[1])
        with self.assertRaises(NotShown):
            certify_done(SMALL, longer, FILLED, NONE, FIRST)
        # A program of which too many units would be made.
        program = wide_program(15, 4, heads=1)
        boxes = 3 + 8 + 13
        made = ((8, 8, 1) + (32,) * 8 + (1,) + (2,) * 12, (("set", (), 1, ONE),))
        filling = (0,) * boxes
        self.assertEqual(certify_done(program, made, (), (), filling)[0][0], "done otherwise")

    def test_chains_for_chips(self):
        self.assertEqual(certify_laid(TWICE, TWICE_MADE, 2, WIDE_CHIP, 1)[1],
            ("apart", ((0, None), (1, ("source", 9, ())), (2,
            ("source", 3, ())))))
        self.assertEqual(certify_laid(TWICE, TWICE_MADE, 3, WIDE_CHIP, 1)[0][0], "laid")
        for chip, paper in [((5, 2, 1, 4, 99), ("units",)), ((5, 9, 0, 4, 99), ("looks",)),
            ((5, 9, 1, 0, 99), ("room",))]:
            self.assertEqual(certify_laid(SMALL, MADE, 1, chip, 0), (("not laid", SMALL, MADE, 1, chip), paper))
        with self.assertRaises(NotShown):
            certify_laid(SMALL, MADE, 1, CHIP, 0)
        with self.assertRaises(NotShown):
            certify_laid(SMALL, MADE, 1, (4, 9, 9, 99, 0), 200)

    def test_early_layouts_that_are_none(self):
        units = [("set", (), 4, ("box", 1))] * 65
        made = made_of(units)
        with self.assertRaises(NotShown):
            certify_before(BASE, made, 3, 2)
        # Here each unit leans on the one ahead.
        made = made_of([("set", (), 4, ("box", 4))] * 65)
        self.assertEqual(self.certified(certify_before, BASE, made, 64, 63)[0], "not before")
        self.assertEqual(len(certify_laid(BASE, made, 1, (64, 9, 0, 0, 0), 0)[1][1]), 65)
        with self.assertRaises(NotShown):
            certify_before(BASE, made, 3, 4)

    def test_too_many_is_told_last(self):
        guards = [tuple((6 + at, 1) for at in range(8)), tuple((6 + at, 1) for at in range(8, 15))]
        made = made_of(asks(15) + [("set", guard, 1, ONE) for guard in guards], (1,) * 15)
        layout = (1, (0,) * 15 + (1, 2))
        assert_given(self, 32768, certify_layout, BASE, made, layout)
        assert_given(self, 32768, certify_before, BASE, made, 16, 0)
        assert_given(self, 32768, certify_laid, BASE, made, 1, (1, 1, 0, 0, 0), 0)
        for call, right in [(certify_layout, [layout]), (certify_before, [16, 0]), (certify_laid, [1, CHIP, 0])]:
            for at in range(len(right)):
                with self.assertRaises((InvalidLayout, InvalidNumber, InvalidChip)):
                    call(BASE, made, *right[:at], None, *right[at + 1:])
        program = full_program()
        with self.assertRaises(TooMany):
            certify_sent(program, None, None, None, None)
        assert_given(self, 201, certify_sent, wide_program(15, 4, heads=1), None, None, None, None)
        assert_given(self, 251, certify_sent, wide_program(0, 0, 160), None, None, None, None)

    def test_wrong_parameters(self):
        kinds = {
            "frame": (InvalidFrame, JUNK + [FRAME[:2]]), "packet": (InvalidPacket, JUNK + [(1, [7]), (256, ())]),
            "way": (InvalidWay, JUNK + [("accept",), ("a", "refuse"), ["a", "accept"], ("a",) * 9 + ("accept",),
                (1, "accept"),
                ("a", "accept", None)]),
            "state": (InvalidNumber, JUNK + [-1, 3, 64, True, None, "0"]),
            "writing": (InvalidWriting, [value for value in JUNK if not isinstance(value, str)]),
            "program": (InvalidProgram, JUNK + [SMALL[:7]]), "contents": (InvalidContents, [(), FILLED[0], None, [()]]),
            "cells": (InvalidCells, [(), NONE[0], ((True, 0, 0, 0),), None]),
            "packets": (InvalidPackets, [None, [], ((1, ()),) * 101]), "keys": (InvalidKeys, WRONG_KEYS + JUNK),
            "entries": (InvalidEntries, [None, [], THREE * 11]), "others": (InvalidEntries, [None, [], THREE * 11]),
            "other_keys": (InvalidKeys, WRONG_KEYS + JUNK + [KEYS[::-1], KEYS[:1], (("prefix", 3), ("mask", 3))]),
            "index": (InvalidNumber, [-1, 3, True, None, "0"] + JUNK),
                "width": (InvalidNumber, [0, 33, True, None] + JUNK),
            "low": (InvalidWord, [-1, 16, True, None] + JUNK), "high": (InvalidWord, [-1, 16, 2, True, None] + JUNK),
            "many": (InvalidNumber, [-1, 65, True, None] + JUNK), "made": (InvalidUnits, JUNK + [list(MADE), MADE[:1]]),
            "filling": (InvalidFilling, [None, FIRST[1:], list(FIRST)]),
            "layout": (InvalidLayout, JUNK + [(0, LAID[1]), (1, LAID[1][1:])]),
            "arrivals": (InvalidPackets, [None, [], ARRIVALS[:1] * 21]),
                "coming": (InvalidComing, [None, [], COMING * 21]),
            "unit": (InvalidNumber, [-1, 11, True, None] + JUNK), "stage": (InvalidNumber, [-1, 64, True, None] + JUNK),
            "gap": (InvalidNumber, [0, 17, True, None] + JUNK), "chip": (InvalidChip, JUNK + [list(CHIP), CHIP[:4]]),
            "most": (InvalidNumber, [-1, 201, True, None] + JUNK),
        }
        for call, right, _ in RIGHT:
            names = NAMES[call.__name__]
            for at, name in enumerate(names):
                error, values = kinds[name]
                attribute = {"given": "given", "index": "index", "place": "place"}[next(iter(vars(error(None))))]
                for value in values:
                    kept = value if attribute == "given" else None
                    behind = [None] * (len(names) - at - 1)
                    if right[0] in (TURNED, DEAD, TWO_TOUCHES) and name in ("made", "layout"):
                        continue
                    assert_raises(self, error, attribute, kept, call, *right[:at], value, *behind)
                    named = dict(zip(names, right[:at] + [value] + right[at + 1:]))
                    assert_raises(self, error, attribute, kept, call, **dict(reversed(named.items())))

    def test_indexes_of_wrong_parameters(self):
        one, other = ARRIVALS
        for value, index in [((one, None), 1), ((other, one), 1), ((one, one), 1), (((-1, one[1]),), 0),
            (((1001, one[1]),),
            0), (((True, one[1]),), 0), (((0, (7, [1])),), 0), (((0,),), 0), ((one, list(other)), 1),
                ((one, other + (1,)), 1)]:
            assert_raises(self, InvalidPackets, "index", index, certify_sent, SMALL, LAID, FILLED, NONE, value)
        assert_raises(self, InvalidPackets, "index", 1, certify_sent, SMALL, (2, LAID[1]), FILLED, NONE, ARRIVALS)
        self.assertEqual(certify_sent(SMALL, (2, LAID[1]), FILLED, NONE, (one, (2, other[1])))[0][0], "sent alike")
        for value, index in [((one[1], None), 1), (((1, (256,)),), 0)]:
            assert_raises(self, InvalidPackets, "index", index, certify_worked, SMALL, FILLED, NONE, value)
        for value, index in [(THREE + (None,), 3), ((THREE[0][:2],), 0)]:
            assert_raises(self, InvalidEntries, "index", index, certify_tables, KEYS, value, None, None)
            assert_raises(self, InvalidEntries, "index", index, certify_tables, KEYS, THREE, KEYS, value)
            assert_raises(self, InvalidEntries, "index", index, certify_entry, KEYS, value, None)
        # The others are entries for their own keys.
        other_keys = (("exact", 3), ("range", 2))
        assert_raises(self, InvalidEntries, "index", 0, certify_tables, KEYS, THREE, other_keys, THREE)
        self.assertEqual(certify_tables(KEYS, (), other_keys, (((5, (1, 2)), "a", ()),))[0][5], (5, 1))
        for value, index in [((COMING[0], None), 1), ((COMING[1], COMING[0]), 1)]:
            assert_raises(self, InvalidComing, "index", index, certify_flow, SMALL, FILLED, MADE, LAID, NONE, value)
        self.assertTrue(all(hasattr(certificates, name) for name in NAMES))


if __name__ == "__main__":
    unittest.main()
