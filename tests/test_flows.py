"""Points 27 and 30: the flow, clashes, what stands in the chip; right layouts do what CONTROL does."""

import unittest

from switchstages.boxes import box_widths
from switchstages.errors import (
    InvalidCells, InvalidComing, InvalidContents, InvalidLayout, InvalidNumber, InvalidProgram, InvalidUnits, TooMany,
)
from switchstages.flows import flow, stand
from switchstages.layouts import early, wrong_in
from switchstages.programs import behind
from switchstages.units import done, units_of
from tests.madeup import BASE, OWN, cases, laid_about
from tests.makers import Maker
from tests.plainflow import PlainFlow, lookup_of
from tests.samples import JUNK, assert_raises
from tests.small import FILLED, NONE, SMALL
from tests.test_layouts import HASTY, LAID, MADE
from tests.test_units import filling_for

FIRST, SECOND = (7, 0, 0, 0, 1, 1, 70, 1, 6), (7, 0, 0, 0, 1, 1, 9, 1, 6)
COMING = ((0, FIRST), (1, SECOND))
ONE = ("word", 1)
NO_CONTENTS = ((), (), ())
CELLS = ((0, 0, 0, 0), (0, 0, 0))
FILLING = (1, 2, 0, 3, 1, 4)
WIDTHS = box_widths(BASE[0], BASE[1])


def fillings(maker, many, gap=1):
    """Fillings of the base that come at beats a gap or more from one another."""
    beat, coming = maker.upto(3), []
    for _ in range(many):
        coming.append((beat, filling_for(maker, BASE)))
        beat += gap + maker.pick([0, 0, 0, 1, 2, 5])
    return tuple(coming)


class FlowTest(unittest.TestCase):
    def test_the_example(self):
        self.assertEqual(flow(SMALL, FILLED, MADE, LAID, NONE, COMING), ("through", (
            (7, 4, 0, 0, 1, 1, 70, 1, 0, 1, 4, 1, 0, 1, 1, 69), (7, 3, 0, 1, 1, 1, 9, 1, 1, 1, 3, 1, 1, 1, 1, 8),
        ), ((0, 0, 2, 0),)))
        self.assertEqual(stand(SMALL, FILLED, MADE, LAID, NONE, COMING, 2), (
            ((0, 2, (7, 4, 0, 0, 1, 1, 70, 1, 6, 1, 4, 1, 0, 1, 1, 69)),
                (1, 1, (7, 0, 0, 0, 1, 1, 9, 1, 6, 1, 3, 1, 0, 1, 1, 8))), ((0, 0, 1, 0),)))

    def test_flows_told_another_way(self):
        met = {}
        for maker, made, told in cases(400, 12):
            layout = laid_about(maker, told)
            contents, cells = maker.contents(BASE, WIDTHS), maker.cells(BASE)
            coming = fillings(maker, maker.upto(6))
            lookup = lookup_of(BASE, contents, WIDTHS)
            found = PlainFlow(BASE, made, layout[1], cells, coming, lookup).run()
            self.assertEqual(flow(BASE, contents, made, layout, cells, coming), found)
            kind = found[0] if found[0] == "through" else found[2][0]
            met[kind] = met.get(kind, 0) + 1
            plainly = PlainFlow(BASE, made, layout[1], cells, coming, lookup)
            for beat in range(20):
                self.assertEqual(stand(BASE, contents, made, layout, cells, coming, beat), plainly.standing())
                if plainly.step() is not None:
                    self.assertIs(stand(BASE, contents, made, layout, cells, coming, beat + 1), None)
                    self.assertIs(stand(BASE, contents, made, layout, cells, coming, 1100), None)
                    break
        self.assertTrue(all(met.get(kind, 0) > 10 for kind in ("through", "box", "register")), met)

    def test_right_layouts_leave_what_control_leaves(self):
        many = 0
        for seed in range(150):
            maker = Maker(seed)
            program = maker.program()
            made = units_of(program)
            try:
                gap, stages = early(program, made)
            except TooMany:
                continue
            many += 1
            contents, cells = maker.contents(program, box_widths(program[0], program[1])), maker.cells(program)
            coming, beat = [], 0
            for _ in range(4):
                coming.append((beat, filling_for(maker, program)))
                beat += gap + maker.pick([0, 0, 1, 7])
            kind, found, left = flow(program, contents, made, (gap, stages), cells, tuple(coming))
            self.assertEqual(kind, "through")
            for (_, filling), boxes in zip(coming, found):
                filled, cells = behind(program, contents, cells, filling)
                self.assertEqual(boxes[:len(filled)], filled)
            self.assertEqual(left, cells)
        self.assertGreater(many, 90)

    def test_right_layouts_of_made_up_units_are_as_done_plainly(self):
        many = 0
        for maker, made, told in cases(300, 10):
            layout = laid_about(maker, told)
            if wrong_in(BASE, made, layout) is not None:
                continue
            many += 1
            contents, cells = maker.contents(BASE, WIDTHS), maker.cells(BASE)
            coming = fillings(maker, 5, layout[0])
            kind, found, left = flow(BASE, contents, made, layout, cells, coming)
            self.assertEqual(kind, "through")
            for (_, filling), boxes in zip(coming, found):
                plainly, cells = done(BASE, contents, made, cells, filling)
                self.assertEqual(boxes, plainly)
            self.assertEqual(left, cells)
        self.assertGreater(many, 100)

    def test_nothing_comes_and_no_units(self):
        self.assertEqual(flow(SMALL, FILLED, MADE, LAID, NONE, ()), ("through", (), NONE))
        self.assertEqual(stand(SMALL, FILLED, MADE, LAID, NONE, (), 0), ((), NONE))
        none = (OWN + (9,), ())
        coming = ((0, FILLING), (5, FILLING))
        self.assertEqual(flow(BASE, NO_CONTENTS, none, (1, ()), CELLS, coming),
            ("through", (FILLING + (0,),) * 2, CELLS))
        for beat in (0, 5, 1100):
            self.assertEqual(stand(BASE, NO_CONTENTS, none, (1, ()), CELLS, coming, beat), ((), CELLS))

    def test_a_packet_leaves_behind_the_last_stage_with_a_unit(self):
        made = (OWN, (("set", (), 1, ("word", 5)), ("set", (), 2, ONE)))
        layout, coming = (1, (1, 3)), ((2, FILLING), (1000, FILLING))
        told = [(beat, stand(BASE, NO_CONTENTS, made, layout, CELLS, coming, beat)[0]) for beat in
            (0, 1, 2, 3, 4, 5, 6, 999, 1000, 1003, 1004, 1100)]
        changed = FILLING[:1] + (5,) + FILLING[2:]
        self.assertEqual(told, [
            (0, ()), (1, ()), (2, ((0, 0, FILLING),)), (3, ((0, 1, FILLING),)), (4, ((0, 2, changed),)),
            (5, ((0, 3, changed),)), (6, ()), (999, ()), (1000, ((1, 0, FILLING),)), (1003, ((1, 3, changed),)),
            (1004, ()), (1100, ()),
        ])
        late = (1, (63, 0))
        self.assertEqual(stand(BASE, NO_CONTENTS, made, late, CELLS, coming, 1063)[0][0][:2], (1, 63))
        self.assertEqual(stand(BASE, NO_CONTENTS, made, late, CELLS, coming, 1064)[0], ())
        self.assertEqual(flow(BASE, NO_CONTENTS, made, late, CELLS, coming)[1][1][1], 5)

    def test_40_packets_close_to_one_another_and_far_from_it(self):
        made = (OWN + (16,), (("touch", (), 0, ("box", 0), "add", ONE, 6), ("set", (), 1, ("box", 6))))
        for step in (1, 25):
            coming = tuple((at * step, FILLING) for at in range(40))
            kind, found, left = flow(BASE, NO_CONTENTS, made, (1, (0, 1)), CELLS, coming)
            self.assertEqual([kind, [boxes[1] for boxes in found], left], ["through", list(range(40)),
                ((0, 40, 0, 0), (0,
                0, 0))])

    def test_clashes_of_boxes(self):
        made = (OWN, (("set", (), 4, ONE), ("set", (), 1, ONE), ("set", (), 1, ONE), ("set", (), 4, ONE)))
        coming = ((3, FILLING), (4, FILLING))
        for stages, told in [((0, 1, 2, 3), None), ((0, 1, 1, 2), (4, ("box", 0, 1))),
            ((5, 1, 2, 5), (8, ("box", 0, 4))),
            ((1, 1, 1, 1), (4, ("box", 0, 1)))]:
            found = flow(BASE, NO_CONTENTS, made, (1, stages), CELLS, coming)
            self.assertEqual(found[1:] if found[0] == "clash" else None, told)
        # The second one alone has both active.
        made = (OWN + (1,), (("ask", 6, "same", ("box", 0), ("word", 9)), ("set", ((6, 1),), 1, ONE),
            ("set", (), 1, ONE)))
        coming += ((9, (9,) + FILLING[1:]),)
        self.assertEqual(flow(BASE, NO_CONTENTS, made, (1, (0, 1, 1)), CELLS, coming), ("clash", 10, ("box", 2, 1)))
        self.assertEqual(stand(BASE, NO_CONTENTS, made, (1, (0, 1, 1)), CELLS, coming, 10)[0][0][:2], (2, 1))
        self.assertIs(stand(BASE, NO_CONTENTS, made, (1, (0, 1, 1)), CELLS, coming, 11), None)

    def test_clashes_of_registers(self):
        touches = (("touch", (), 1, ONE, "add", ONE, 6), ("touch", (), 0, ONE, "add", ONE, 7),
            ("touch", (), 1, ONE, "add",
            ONE, 8))
        made = (OWN + (8, 8, 8), touches)
        coming = ((0, FILLING), (2, FILLING))
        for stages, told in [((0, 0, 0), (0, ("register", 1))), ((0, 0, 1), None), ((0, 0, 2), (2, ("register", 1))),
            ((3, 0, 1), (3, ("register", 1)))]:
            found = flow(BASE, NO_CONTENTS, made, (1, stages), CELLS, coming)
            self.assertEqual(found[1:] if found[0] == "clash" else None, told)
        # Boxes are told ahead of registers, of several ones the first by who comes, then by the box.
        both = (touches[0], ("touch", (), 1, ONE, "add", ONE, 6), ("touch", (), 0, ONE, "or", ONE, 5),
            ("touch", (), 0, ONE,
            "or", ONE, 5))
        made = (OWN + (8,), both)
        self.assertEqual(flow(BASE, NO_CONTENTS, made, (1, (1, 1, 1, 1)), CELLS, coming), ("clash", 1, ("box", 0, 5)))
        made = (OWN + (8, 8, 8, 8), tuple(("touch", (), at // 2, ONE, "add", ONE, 6 + at) for at in range(4)))
        self.assertEqual(flow(BASE, NO_CONTENTS, made, (1, (1, 1, 1, 1)), CELLS, coming), ("clash", 1, ("register", 0)))
        self.assertEqual(flow(BASE, NO_CONTENTS, made, (1, (0, 2, 4, 4)), CELLS, coming), ("clash", 2, ("register", 0)))

    def test_all_is_read_ahead_of_all_that_is_written(self):
        made = (OWN, (("set", (), 1, ("box", 3)), ("set", (), 3, ("box", 1))))
        self.assertEqual(flow(BASE, NO_CONTENTS, made, (1, (0, 0)), CELLS, ((0, FILLING),))[1], ((1, 3, 0, 2, 1, 4),))
        # What a packet ahead writes into a cell at this beat is not read by the one behind at it.
        made = (OWN + (16, 1), (("touch", (), 0, ONE, "add", ONE, 6), ("ask", 7, "same", ("box", 0), ("word", 1)),
            ("set", (
            (7, 0),), 3, ("box", 6))))
        found = flow(BASE, NO_CONTENTS, made, (1, (1, 0, 2)), CELLS, ((0, FILLING), (1, (2,) + FILLING[1:])))
        self.assertEqual([boxes[3] for boxes in found[1]], [3, 1])

    def test_a_layout_that_is_not_right_flows_too(self):
        found = flow(SMALL, FILLED, MADE, HASTY, NONE, COMING)
        self.assertEqual([found[0], found[1][0][8], found[1][1][8]], ["through", 0, 0])

    def test_wrong_parameters(self):
        right = [SMALL, FILLED, MADE, LAID, NONE, COMING]
        wrong = [
            (InvalidProgram, JUNK + [SMALL[:7]]), (InvalidContents, [(), FILLED[0], list(FILLED)]),
            (InvalidUnits, [list(MADE), (MADE[0], MADE[1][1:]), LAID] + JUNK),
            (InvalidLayout, [(0, LAID[1]), (1, LAID[1][1:]), LAID[1], (True, LAID[1]), [1, LAID[1]]] + JUNK),
            (InvalidCells, [(), NONE[0], ((0, 0, 0),), ((True, 0, 0, 0),)]),
        ]
        for at, (error, values) in enumerate(wrong):
            for value in values:
                assert_raises(self, error, "given", value, flow, *right[:at], value, *[None] * (5 - at))
                assert_raises(self, error, "given", value, stand, *right[:at], value, *[None] * (6 - at))
        names = ("program", "contents", "made", "layout", "cells", "coming", "beat")
        self.assertEqual(flow(**dict(zip(names, right))), flow(*right))
        pair = COMING[0]
        for value, index in [
            (None, None), (list(COMING), None), (tuple((at, FIRST) for at in range(41)), None), ((pair, pair), 1),
            ((COMING[1], COMING[0]), 1), ((list(pair),), 0), ((pair, None), 1), (((True, FIRST),), 0),
                (((-1, FIRST),), 0),
            (((1001, FIRST),), 0), (((0, FIRST[1:]),), 0), (((0, list(FIRST)),), 0), (((0,),), 0), ((pair + (1,),), 0),
            (((0, FIRST[:7] + (0, 6)),), 0), (((0, (256,) + FIRST[1:]),), 0),
                ((pair, (1000, SECOND), (1001, FIRST)), 2),
            (((None, FIRST),), 0), (((0, None),), 0), (("ab",), 0), (pair, 0), (((10 ** 399, FIRST),), 0),
        ] + [(value, 0 if isinstance(value, tuple) else None) for value in JUNK if value != ()]:
            assert_raises(self, InvalidComing, "index", index, flow, *right[:5], value)
            assert_raises(self, InvalidComing, "index", index, stand, *right[:5], value, None)
        for value in [-1, 1101, True, None, "1", (1,), 10 ** 399] + JUNK:
            assert_raises(self, InvalidNumber, "given", value, stand, *right, value)
            assert_raises(self, InvalidNumber, "given", value, stand, **dict(zip(names, right + [value])))
        self.assertEqual(flow(*right[:5], tuple((961 + at, FIRST) for at in range(40)))[0], "through")


if __name__ == "__main__":
    unittest.main()
