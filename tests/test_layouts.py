"""Points 28, 29, 31 and 32: right layouts, leaning, the early layout, what lives, and chips."""

import unittest

from switchstages.errors import InvalidChip, InvalidLayout, InvalidNumber, InvalidProgram, InvalidUnits, TooMany
from switchstages.layouts import early, fitted, is_chip, is_layout, leans_on, lives, over, wrong_in
from switchstages.units import is_made, units_of
from tests.madeup import BASE, OWN, Told, cases, laid_about
from tests.makers import Maker
from tests.samples import JUNK, assert_raises
from tests.small import SMALL

MADE = units_of(SMALL)
LAID = (1, (0, 1, 1, 0, 1, 2, 0, 3, 0, 0, 1))
HASTY, HURRIED = (1, (0, 1, 1, 0, 1, 2, 0, 2, 0, 0, 1)), (1, (0, 1, 1, 0, 0, 2, 0, 3, 0, 0, 1))
CHIP = (4, 5, 1, 4, 70)
ONE, OLD = ("word", 1), ("box", 3)


def made_of(units, widths=()):
    return (OWN + tuple(widths), tuple(units))


def asks(many):
    """Asks that write the boxes from 6 on."""
    return [("ask", 6 + at, "same", ONE, ONE) for at in range(many)]


class LayoutsTest(unittest.TestCase):
    def test_the_example(self):
        self.assertEqual(early(SMALL, MADE), LAID)
        self.assertEqual([wrong_in(SMALL, MADE, LAID), leans_on(SMALL, MADE, 7), lives(SMALL, MADE, LAID, 2)],
            [None, (3, 5, 6), (11, 12, 13)])
        self.assertEqual([wrong_in(SMALL, MADE, HASTY), wrong_in(SMALL, MADE, HURRIED)],
            [("source", ((11, 1), (13, 1)), 7, 3, 5, None), ("late", 4, 11)])
        self.assertIs(is_layout(SMALL, MADE, (0, LAID[1])), False)
        told = [over(SMALL, MADE, LAID, CHIP), over(SMALL, MADE, LAID, (4, 5, 1, 4, 69)),
            over(SMALL, MADE, LAID, (3, 5, 1, 4, 70)), over(SMALL, MADE, HASTY, CHIP), is_chip((0, 5, 1, 4, 70))]
        self.assertEqual(told, [None, ("bits", 1), ("stages", 3), ("wrong",), False])
        self.assertIs(over(SMALL, MADE, fitted(SMALL, MADE, 1, CHIP, 1), CHIP), None)

    def test_many_made_programs_way_by_way(self):
        met = {}
        for maker, made, told in cases(500, 9):
            self.assertEqual(early(BASE, made), told.early())
            for index in range(len(made[1])):
                self.assertEqual(leans_on(BASE, made, index), tuple(told.leans(index)))
            self.assertIs(wrong_in(BASE, made, told.early()), None)
            for _ in range(3):
                layout = laid_about(maker, told)
                wrongs = told.wrongs(*layout)
                found = wrong_in(BASE, made, layout)
                self.assertEqual(found, wrongs[0] if wrongs else None, (made, layout))
                kind = found and found[0] + (" end" if found[0] == "source" and found[2] == len(made[1]) else "")
                met[kind] = met.get(kind, 0) + 1
        self.assertEqual(sorted(met, key=str), [None, "gap", "late", "once", "order", "source", "source end"])

    def test_what_lives_and_what_is_over(self):
        met = {}
        for maker, made, told in cases(300, 9):
            layout = laid_about(maker, told)
            for stage in range(6):
                self.assertEqual(lives(BASE, made, layout, stage), told.lives(layout[1], stage))
            chip = (1 + maker.upto(5), 1 + maker.upto(5), maker.upto(2), maker.pick([0, 4, 6, 40, 256]), maker.upto(40))
            found = over(BASE, made, layout, chip)
            self.assertEqual(found, told.over(layout, chip))
            met[found and found[0]] = True
        self.assertEqual(len(met), 7)

    def test_programs_laid_early(self):
        laid = 0
        for seed in range(120):
            program = Maker(seed).program()
            made = units_of(program)
            told = Told(program, made)
            many = told.most_ways()
            if many > 16384:
                for call, behind in ((early, ()), (leans_on, (0,))):
                    assert_given(self, many, call, program, made, *behind)
            elif many <= 64:
                gap, stages = told.early()
                if max(stages + (0,)) > 63 or gap > 16:
                    assert_given(self, max(stages) + 1 if max(stages) > 63 else gap, early, program, made)
                    continue
                self.assertEqual(early(program, made), (gap, stages))
                self.assertIs(wrong_in(program, made, (gap, stages)), None)
                self.assertEqual(told.wrongs(gap, stages), [])
                laid += 1
        self.assertGreater(laid, 40)

    def test_each_wish_alone(self):
        guarded = [*asks(2), ("set", ((6, 1),), 1, ONE), ("set", ((7, 1),), 1, ONE)]
        made = made_of(guarded, (1, 1))
        for stages, told in [
            ((0, 0, 1, 2), None), ((0, 0, 0, 2), ("late", 2, 6)), ((1, 0, 1, 2), ("late", 2, 6)),
                ((0, 3, 1, 2), ("late",
                3, 7)), ((0, 0, 1, 1), ("once", ((6, 1), (7, 1)), 2, 3)), ((0, 0, 2, 1), ("source", ((6, 1), (7, 1)), 4,
                1, 3, 2)),
        ]:
            self.assertEqual(wrong_in(BASE, made, (1, stages)), told)
        made = made_of([("set", (), 1, ONE), ("set", (), 4, ("box", 1))])
        for stages, told in [((0, 1), None), ((0, 0), ("source", (), 1, 1, 0, None)), ((1, 0), ("source", (), 1, 1, 0,
            None)), ((62, 63), None)]:
            self.assertEqual(wrong_in(BASE, made, (1, stages)), told)
        # What is read ahead must not be written in a lesser stage.
        made = made_of([("set", (), 4, ("box", 1)), ("set", (), 1, ONE)])
        for stages, told in [((0, 0), None), ((0, 1), None), ((1, 0), ("source", (), 0, 1, None, 1))]:
            self.assertEqual(wrong_in(BASE, made, (1, stages)), told)
        touches = [("touch", (), 1, ONE, "add", ONE, 6), ("touch", (), 1, ONE, "add", ONE, 7)]
        made = made_of(touches, (8, 8))
        for gap, stages, told in [
            (2, (0, 1), None), (1, (0, 1), ("gap", 0, 1)), (16, (3, 18), None), (15, (3, 18), ("gap", 0, 1)),
            (16, (1, 1), ("order", (), 0, 1)), (16, (1, 0), ("order", (), 0, 1)), (1, (1, 0), ("order", (), 0, 1)),
        ]:
            self.assertEqual(wrong_in(BASE, made, (gap, stages)), told)

    def test_touches_that_are_never_active_together(self):
        touches = [("touch", ((6, 0),), 0, ONE, "add", ONE, 7), ("touch", ((6, 1),), 0, ONE, "add", ONE, 8)]
        made = made_of(asks(1) + touches, (1, 8, 8))
        for gap, stages, told in [(1, (0, 1, 1), None), (2, (0, 2, 1), None), (1, (0, 2, 1), ("gap", 2, 1)),
            (1, (0, 1, 2), ("gap", 1, 2))]:
            self.assertEqual(wrong_in(BASE, made, (gap, stages)), told)
        self.assertEqual(early(BASE, made), (1, (0, 1, 1)))
        self.assertEqual(leans_on(BASE, made, 2), (0,))

    def test_of_several_touches_the_first_of_each_is_told(self):
        touches = [("touch", ((6, at % 2),), 0, ONE, "add", ONE, 7 + at) for at in range(4)]
        made = made_of(asks(1) + touches, (1, 8, 8, 8, 8))
        self.assertEqual(wrong_in(BASE, made, (2, (0, 1, 1, 3, 3))), ("gap", 1, 3))
        self.assertEqual(wrong_in(BASE, made, (3, (0, 1, 1, 3, 3))), None)
        both = touches + [("touch", (), 1, ONE, "add", ONE, 11), ("touch", (), 1, ONE, "add", ONE, 12)]
        made = made_of(asks(1) + both, (1,) + (8,) * 6)
        self.assertEqual(wrong_in(BASE, made, (1, (0, 1, 1, 2, 2, 0, 5))), ("gap", 1, 3))
        self.assertEqual(wrong_in(BASE, made, (2, (0, 1, 1, 2, 2, 0, 5))), ("gap", 5, 6))
        self.assertEqual(wrong_in(BASE, made, (2, (0, 1, 1, 2, 2, 5, 5))), ("order", (), 5, 6))
        self.assertEqual(wrong_in(BASE, made, (9, (0, 1, 2, 2, 1, 5, 5))), ("order", ((6, 1),), 2, 4))

    def test_of_several_wishes_the_first_is_told(self):
        units = [*asks(1), ("set", ((6, 1),), 1, ONE), ("set", (), 1, ("word", 2)), ("set", (), 4, ("box", 1)),
            ("touch", (), 0, ONE, "or", ONE, 7), ("touch", (), 0, ONE, "or", ONE, 8)]
        made = made_of(units, (1, 8, 8))
        for gap, stages, told in [
            (1, (0, 0, 0, 0, 0, 0), ("late", 1, 6)), (1, (0, 1, 1, 0, 0, 0), ("once", ((6, 1),), 1, 2)),
            (1, (0, 1, 2, 0, 0, 0), ("source", ((6, 0),), 3, 1, 2, None)), (1, (0, 1, 2, 3, 0, 0), ("order", (), 4, 5)),
            (1, (0, 1, 2, 3, 0, 1), ("gap", 4, 5)), (2, (0, 1, 2, 3, 0, 1), None),
        ]:
            self.assertEqual(wrong_in(BASE, made, (gap, stages)), told)

    def test_the_least_way_is_told(self):
        look = ("look", 0, (ONE, ONE), 8, (9, 10))
        units = [*asks(2), look, ("set", ((6, 1), (8, 2)), 1, ONE), ("set", ((7, 0), (8, 2)), 1, ONE),
            ("set", ((8, 3),), 1, ONE), ("set", ((6, 1),), 4, ("box", 1))]
        made = made_of(units, (1, 1, 3, 1, 1))
        self.assertIs(wrong_in(BASE, made, (1, (0, 0, 0, 1, 2, 1, 3))), None)
        self.assertEqual(wrong_in(BASE, made, (1, (0, 0, 0, 1, 1, 1, 3))), ("once", ((6, 1), (7, 0), (8, 2)), 3, 4))
        self.assertEqual(wrong_in(BASE, made, (1, (0, 0, 0, 1, 2, 1, 2))), ("source", ((6, 1), (7, 0), (8, 2)), 6, 1, 4,
            3))
        self.assertEqual(wrong_in(BASE, made, (1, (0, 0, 0, 2, 1, 1, 3))), ("source", ((6, 1), (7, 0), (8, 2)), 6, 1, 4,
            3))
        self.assertEqual(wrong_in(BASE, made, (1, (0, 0, 0, 1, 2, 3, 3))), ("source", ((6, 1), (7, 0), (8, 3)), 6, 1, 5,
            None))

    def test_units_without_a_guard(self):
        made = made_of([("reckon", 6, "add", ONE, ONE), ("set", (), 1, ("box", 6)), ("set", (), 1, ("box", 6))], (32,))
        self.assertEqual(early(BASE, made), (1, (0, 1, 2)))
        self.assertEqual(wrong_in(BASE, made, (1, (0, 1, 1))), ("once", (), 1, 2))
        self.assertEqual(wrong_in(BASE, made, (1, (0, 2, 1))), ("source", (), 3, 1, 2, 1))
        self.assertEqual([leans_on(BASE, made, at) for at in range(3)], [(), (0,), (0,)])

    def test_no_units(self):
        made = made_of([])
        self.assertEqual(early(BASE, made), (1, ()))
        self.assertIs(wrong_in(BASE, made, (16, ())), None)
        self.assertIs(over(BASE, made, (1, ()), (1, 1, 0, 0, 0)), None)
        self.assertEqual([fitted(BASE, made, 3, (1, 1, 0, 0, 0), most) for most in (1, 200)], [(3, ())] * 2)
        self.assertEqual(lives(BASE, made, (1, ()), 0), ())

    def test_whom_a_unit_leans_on(self):
        # Hidden by writers between that are active in all ways together.
        units = [*asks(1), ("set", (), 1, ONE), ("set", ((6, 0),), 1, ONE), ("set", ((6, 1),), 1, ONE),
            ("set", (), 4, ("box", 1)), ("set", ((6, 1),), 4, ("box", 1))]
        made = made_of(units, (1,))
        self.assertEqual([leans_on(BASE, made, at) for at in range(6)], [(), (), (0,), (0,), (2, 3), (0, 3)])
        self.assertEqual(early(BASE, made), (1, (0, 0, 1, 1, 2, 3)))

    def test_more_than_16384_ways(self):
        # 14 asks have 16384 ways.
        for many in (14, 15):
            guards = [tuple((6 + at, 1) for at in range(8)), tuple((6 + at, 1) for at in range(8, many))]
            units = asks(15) + [("set", guard, 1, ONE) for guard in guards]
            made = made_of(units, (1,) * 15)
            stages = (0,) * 15 + (1, 2)
            calls = [(wrong_in, ((1, stages),)), (leans_on, (16,)), (early, ()), (lives, ((1, stages), 1)),
                (over, ((1, stages), CHIP)), (fitted, (1, CHIP, 0))]
            for call, behind in calls:
                if many == 15:
                    assert_given(self, 32768, call, BASE, made, *behind)
                else:
                    call(BASE, made, *behind)
            if many == 14:
                self.assertIs(wrong_in(BASE, made, (1, stages)), None)
                told = wrong_in(BASE, made, (1, stages[:15] + (2, 1)))
                self.assertEqual(told, ("source", tuple((6 + at, 1) for at in range(14)), 17, 1, 16, 15))
        # What is wrong is told ahead of too many ways, whatever it is.
        for call, right, names in [(wrong_in, [(1, stages)], [0]), (lives, [(1, stages), 1], [0, 1]),
            (over, [(1, stages),
            CHIP], [0, 1]), (fitted, [1, CHIP, 0], [0, 1, 2]), (leans_on, [16], [0])]:
            for at in names:
                with self.assertRaises((InvalidLayout, InvalidNumber, InvalidChip)):
                    call(BASE, made, *right[:at], None, *right[at + 1:])

    def test_ways_of_registers_and_of_readers_count(self):
        atoms = tuple((6 + at, 1) for at in range(8))
        others = tuple((6 + at, 1) for at in range(8, 15))
        touches = [("touch", guard, 0, ONE, "add", ONE, 21 + at) for at, guard in enumerate((atoms, others))]
        made = made_of(asks(15) + touches, (1,) * 15 + (8, 8))
        assert_given(self, 32768, early, BASE, made)
        units = asks(15) + [("set", atoms, 1, ONE), ("set", others, 4, ("box", 1))]
        assert_given(self, 32768, early, BASE, made_of(units, (1,) * 15))
        units = asks(15) + [("set", atoms, 1, ONE), ("set", others, 4, ("box", 3))]
        self.assertEqual(early(BASE, made_of(units, (1,) * 15)), (1, (0,) * 15 + (1, 1)))
        # The most of all wishes is told; looks count by how many actions they may tell.
        looks = [("look", 0, (ONE, ONE), 6 + 3 * at, (7 + 3 * at, 8 + 3 * at)) for at in range(9)]
        guards = [tuple((6 + 3 * at, 3) for at in range(8)), ((30, 1),)]
        units = looks + [("set", guards[0], 1, ONE), ("set", guards[1], 1, ONE), ("set", guards[1], 4, ONE)]
        made = made_of(units, (3, 1, 1) * 9)
        assert_given(self, 3 ** 9, early, BASE, made)
        self.assertEqual(Told(BASE, made).most_ways(), 3 ** 9)

    def test_counts_of_ways_of_made_up_programs(self):
        for seed in range(60, 200):
            program = Maker(seed).program()
            made = units_of(program)
            many = Told(program, made).most_ways()
            if many > 16384:
                assert_given(self, many, wrong_in, program, made, (1, (0,) * len(made[1])))

    def test_early_layouts_of_too_many_stages_and_of_too_wide_a_gap(self):
        for many in (64, 65, 80):
            units = [("set", (), 4, ("box", 4))] * many
            made = made_of(units)
            if many > 64:
                assert_given(self, many, early, BASE, made)
            else:
                self.assertEqual(early(BASE, made), (1, tuple(range(64))))
        chain = [("set", (), 4, ("box", 4))] * 14
        for more in (0, 1):
            units = [("touch", (), 0, ONE, "add", ONE, 4)] + chain + [("set", (), 4, ("box", 4))] * more
            made = made_of(units + [("touch", (), 0, ("box", 4), "add", ONE, 6)], (8,))
            if more:
                assert_given(self, 17, early, BASE, made)
            else:
                self.assertEqual(early(BASE, made)[0], 16)
        # Stages are told ahead of the gap.
        units = [("touch", (), 0, ONE, "add", ONE, 4)] + chain * 5 + [("touch", (), 0, ("box", 4), "add", ONE, 6)]
        assert_given(self, 72, early, BASE, made_of(units, (8,)))

    def test_layouts_told(self):
        stages = LAID[1]
        for value in [(1, stages), (16, (63,) * 11), (5, (0,) * 11)]:
            self.assertIs(is_layout(SMALL, MADE, value), True)
        for value in [
            (0, stages), (17, stages), (True, stages), (None, stages), ("1", stages), (1, stages[:10]),
                (1, stages + (0,)),
            (1, list(stages)), [1, stages], (1, stages[:10] + (64,)), (1, (-1,) + stages[1:]),
                (1, (True,) + stages[1:]),
            (1, (None,) + stages[1:]), (1,), (1, stages, 1), stages, (stages, 1), (1, ()), (1, None),
                (10 ** 399, stages),
        ] + JUNK:
            self.assertIs(is_layout(SMALL, MADE, value), False)
            assert_raises(self, InvalidLayout, "given", value, wrong_in, SMALL, MADE, value)
            assert_raises(self, InvalidLayout, "given", value, lives, SMALL, MADE, value, None)
            assert_raises(self, InvalidLayout, "given", value, over, chip=None, layout=value, made=MADE, program=SMALL)

    def test_chips_told(self):
        bounds = [(1, 64), (1, 200), (0, 16), (0, 256), (0, 4000)]
        for at, (least, most) in enumerate(bounds):
            for value in (least, most):
                self.assertIs(is_chip(CHIP[:at] + (value,) + CHIP[at + 1:]), True)
            for value in (least - 1, most + 1, True, None, "1", (1,), 10 ** 399, -1):
                chip = CHIP[:at] + (value,) + CHIP[at + 1:]
                self.assertIs(is_chip(chip), False)
                assert_raises(self, InvalidChip, "given", chip, over, SMALL, MADE, LAID, chip)
                assert_raises(self, InvalidChip, "given", chip, fitted, SMALL, MADE, 1, chip, None)
        for value in JUNK + [CHIP[:4], CHIP + (0,), list(CHIP)]:
            self.assertIs(is_chip(value=value), False)
            assert_raises(self, InvalidChip, "given", value, over, SMALL, MADE, LAID, value)
            assert_raises(self, InvalidChip, "given", value, fitted, most=None, chip=value, gap=1, made=MADE,
                program=SMALL)

    def test_what_is_over_kind_by_kind(self):
        looks = [("look", 0, (ONE, ONE), 6, (7, 8)), ("look", 2, (ONE,), 9, ()), ("look", 1, (ONE,), 10, (11,)),
            ("set", ((6, 1), (10, 2)), 1, ("box", 11))]
        made = made_of(looks, (3, 5, 6, 4, 3, 32))
        stages = (1, 2, 1, 4)
        for chip, told in [
            ((5, 2, 2, 32, 38), None), ((4, 2, 2, 32, 38), ("stages", 4)), ((1, 1, 0, 0, 0), ("stages", 1)),
            ((2, 1, 0, 0, 0), ("stages", 2)), ((5, 1, 1, 0, 0), ("units", 1)), ((5, 2, 1, 0, 0), ("looks", 1)),
            ((5, 2, 0, 0, 0), ("looks", 1)), ((5, 2, 2, 31, 0), ("room", 2)), ((5, 2, 2, 5, 0), ("room", 1)),
            ((5, 2, 2, 6, 0), ("room", 2)), ((5, 2, 2, 32, 37), ("bits", 2)),
        ]:
            self.assertEqual(over(BASE, made, (1, stages), chip), told)
        self.assertEqual([lives(BASE, made, (1, stages), at) for at in range(6)],
            [(), (), (6, 10, 11), (6, 10, 11), (6, 10, 11), ()])

    def test_boxes_live_from_behind_their_writer_to_their_last_reader(self):
        units = [("set", (), 6, ONE), ("set", (), 1, ("box", 6)), ("set", (), 4, ("box", 6)),
            ("set", (), 6, ("box", 1))]
        made = made_of(units, (9, 9))
        for stage in range(64):
            self.assertEqual(lives(BASE, made, (1, (5, 7, 10, 63)), stage), (6,) if 6 <= stage <= 10 else ())
            self.assertEqual(lives(BASE, made, (1, (5, 5, 5, 1)), stage), (6,) if 2 <= stage <= 5 else ())
            self.assertEqual(lives(BASE, made, (1, (5, 4, 3, 5)), stage), ())
        for value in [-1, 64, True, None, "1", 10 ** 399, (1,)] + JUNK:
            assert_raises(self, InvalidNumber, "given", value, lives, BASE, made, (1, (0, 1, 1, 1)), value)

    def test_fitted_layouts_fit(self):
        found = 0
        for maker, made, told in cases(150, 12):
            gap, stages = told.early()
            chip = (max(stages + (0,)) + 1 + maker.upto(3), 1 + maker.upto(4), 1 + maker.upto(1), 32 + maker.upto(20),
                10 + maker.upto(60))
            for most in (0, 1, 200):
                layout = fitted(BASE, made, gap, chip, most)
                if layout is not None:
                    self.assertEqual(layout[0], gap)
                    self.assertIs(is_layout(BASE, made, layout), True)
                    self.assertIs(told.over(layout, chip), None)
                    found += 1
                elif most > 0:
                    self.assertIsNot(told.over((gap, stages), chip), None)
        self.assertGreater(found, 60)

    def test_fitted_with_another_gap_than_the_early_one(self):
        self.assertEqual(fitted(SMALL, MADE, 1, CHIP, 1), LAID)
        self.assertEqual(fitted(SMALL, MADE, 16, CHIP, 1), (16, LAID[1]))
        self.assertIs(fitted(SMALL, MADE, 1, CHIP, 0), None)
        self.assertIs(fitted(SMALL, MADE, 1, (3, 11, 1, 4, 99), 200), None)
        touches = [("touch", (), 0, ONE, "add", ONE, 6), ("set", (), 1, ("box", 6)), ("touch", (), 0, ("box", 1), "add",
            ONE, 7)]
        made = made_of(touches, (8, 8))
        self.assertEqual(early(BASE, made), (3, (0, 1, 2)))
        self.assertEqual(fitted(BASE, made, 3, CHIP, 1), (3, (0, 1, 2)))
        self.assertIs(fitted(BASE, made, 2, CHIP, 200), None)

    def test_further_tries_find_more(self):
        # In the early layout all stand in stage 0.
        made = made_of([("set", (), at, ONE) for at in (1, 2, 3, 4, 5)])
        for chip in [(5, 1, 0, 0, 0), (3, 2, 0, 0, 0)]:
            self.assertIs(fitted(BASE, made, 1, chip, 1), None)
            self.assertIs(over(BASE, made, fitted(BASE, made, 1, chip, 9), chip), None)
        # The first touch can wait for the second one.
        units = [("touch", (), 0, ONE, "add", ONE, 6), ("set", (), 4, ONE), ("set", (), 4, ("box", 4)), ("touch", (), 0,
            ("box", 4), "add", ONE, 7)]
        made = made_of(units, (8, 8))
        self.assertEqual(early(BASE, made)[0], 3)
        self.assertIs(over(BASE, made, fitted(BASE, made, 2, CHIP, 9), CHIP), None)
        # Looks and their rooms count, too: each has to stand in a stage of its own, and the chip has no more.
        looks = [("look", 0, (ONE, ONE), 6, (7, 8)), ("look", 2, (ONE,), 9, ()), ("look", 1, (ONE,), 10, (11,))]
        made = made_of(looks, (3, 5, 6, 4, 3, 32))
        for chip in [(3, 1, 1, 32, 99), (3, 3, 1, 32, 99), (2, 2, 2, 32, 99), (2, 3, 3, 36, 99)]:
            layout = fitted(BASE, made, 1, chip, 9)
            self.assertIs(over(BASE, made, layout, chip), None)
        for chip in [(2, 3, 1, 32, 99), (2, 3, 3, 31, 99), (2, 1, 3, 38, 99)]:
            self.assertIs(fitted(BASE, made, 1, chip, 200), None)

    def test_what_is_needed_late_is_written_late(self):
        # Two boxes are reckoned early, but only one of them is read soon.
        units = [("reckon", 6, "add", ONE, ONE), ("reckon", 7, "add", ONE, ONE), ("set", (), 4, ("box", 6)),
            ("set", (), 4,
            ("box", 4)), ("reckon", 8, "add", ("box", 4), ("box", 7)), ("set", (), 1, ("box", 8))]
        made = made_of(units, (32, 32, 32))
        self.assertEqual(early(BASE, made), (1, (0, 0, 1, 2, 3, 4)))
        for bits, told in [(64, None), (63, ("bits", 1))]:
            self.assertEqual(over(BASE, made, early(BASE, made), (5, 9, 0, 0, bits)), told)
        self.assertEqual(fitted(BASE, made, 1, (5, 9, 0, 0, 32), 9)[1], (0, 1, 1, 2, 3, 4))
        self.assertIs(fitted(BASE, made, 1, (5, 9, 0, 0, 31), 200), None)
        # A box that is asked by a guard is needed as well.
        units[1:2] = [("ask", 7, "same", ONE, ONE), ("set", ((7, 1),), 5, ONE)]
        made = made_of(units, (32, 1, 32))
        self.assertEqual(over(BASE, made, early(BASE, made), (5, 9, 0, 0, 32)), ("bits", 1))

    def test_wrong_parameters(self):
        right = {
            wrong_in: [LAID], leans_on: [0], early: [], lives: [LAID, 0], over: [LAID, CHIP], fitted: [1, CHIP, 1],
            is_layout: [LAID],
        }
        for call, behind in right.items():
            for value in JUNK + [SMALL[:7], list(SMALL)]:
                assert_raises(self, InvalidProgram, "given", value, call, value, None, *[None for _ in behind])
            for value in JUNK + [list(MADE), (MADE[0], MADE[1][1:]), MADE[:1], MADE[1]]:
                assert_raises(self, InvalidUnits, "given", value, call, SMALL, value, *[None for _ in behind])
        for value in [0, 17, True, None, "1", (1,), 10 ** 399] + JUNK:
            assert_raises(self, InvalidNumber, "given", value, fitted, SMALL, MADE, value, None, None)
        for value in [-1, 201, True, None, "1", (1,), 10 ** 399] + JUNK:
            assert_raises(self, InvalidNumber, "given", value, fitted, SMALL, MADE, 1, CHIP, value)
        for value in [-1, 11, True, None, "1", (1,), 10 ** 399] + JUNK:
            assert_raises(self, InvalidNumber, "given", value, leans_on, SMALL, MADE, value)
        self.assertIs(is_made(SMALL, MADE), True)


def assert_given(case, given, call, *args):
    """That this many is told to be too many."""
    with case.assertRaises(TooMany) as caught:
        call(*args)
    case.assertEqual(caught.exception.given, given)


if __name__ == "__main__":
    unittest.main()
