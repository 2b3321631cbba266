"""Points 24 to 26: made programs, what units do, and the units made of a program."""

import unittest

from switchstages.boxes import box_widths
from switchstages.errors import (
    InvalidCells, InvalidContents, InvalidFilling, InvalidNumber, InvalidProgram, InvalidUnits, TooMany,
)
from switchstages.programs import behind, first_cells, is_program
from switchstages.units import atoms_of, done, is_made, reads_of, units_of, writes_of
from tests.madeup import BASE, OWN, TABLES, Told, cases
from tests.makers import Maker
from tests.samples import JUNK, assert_raises
from tests.small import (
    FILLED, GONE, IN, KIND, MARK, NONE, OLD, OUT, SMALL, TTL, controlled, deep_expression, full_program, small_with,
)

FIRST = (7, 0, 0, 0, 1, 1, 70, 1, 6)
NOUGHT, ONE = ("word", 0), ("word", 1)
# The boxes of the small program: in, out, gone, old, base, kind, ttl, tag, mark.
MADE = (SMALL_WIDTHS := (8, 8, 1, 16, 1, 8, 8, 1, 8)) + (3, 32, 1, 32, 1, 1, 32)


def filling_for(maker, program):
    """A filling of a program: fields of what is not held are 0."""
    filling, held = [], 0
    for box, width in box_widths(program[0], program[1]).items():
        held = maker.upto(1) if box[0] == "held" else held
        filling.append(held if box[0] == "held" else maker.word(width) if held or box[0] == "local" else 0)
    return tuple(filling)


def wide_program(puts, sets, deep=0, own=8, heads=6):
    """A program in which puts come to 13 units each, sets to 1, with reckons in those that are deep."""
    headers = tuple(("head" + str(at), tuple(("f" + str(field), 2) for field in range(12))) for at in range(heads))
    items = [("put", "head0")] * puts + [("set", OUT, 1)] * sets
    items += [("set", OUT, deep_expression_full(5))] * (deep // 15)
    items += [("set", OUT, deep_expression(2))] * (deep % 15)
    blocks = [tuple(items[at:at + 12]) for at in range(0, len(items), 12)]
    control = ()
    # Each if comes to one ask.
    for block in blocks[::-1]:
        control = (("if", ("same", 1, 1), block, control),)
    return (
        headers, tuple(("l" + str(at), 32) for at in range(own)), (("s", None, ("accept",)),),
        tuple(name for name, _ in headers), (), (("a", (), ()),), (), control,
    )


def deep_expression_full(deep):
    """An expression of 15 reckons, if it is 5 deep."""
    return 1 if deep == 1 else ("add", deep_expression_full(deep - 1), deep_expression_full(deep - 1))


class UnitsMadeTest(unittest.TestCase):
    def made(self, *items):
        widths, units = units_of(controlled(*items))
        self.assertEqual(widths[:9], SMALL_WIDTHS)
        return widths[9:], units

    def test_the_example(self):
        made = units_of(SMALL)
        self.assertEqual(made, (MADE, (
            ("look", 0, (("box", 6),), 9, (10,)), ("set", ((9, 1),), 1, ("box", 10)), ("set", ((9, 2),), 2, ONE),
            ("ask", 11, "same", ("box", 7), ONE), ("touch", ((11, 1),), 0, ("box", 8), "add", ONE, 12),
            ("set", ((11, 1),), 3, ("box", 12)), ("ask", 13, "other", ("box", 7), NOUGHT),
            ("set", ((11, 1), (13, 1)), 8, ("box", 3)), ("ask", 14, "other", ("box", 4), NOUGHT),
            ("reckon", 15, "sub", ("box", 6), ONE), ("set", ((11, 0), (14, 1)), 6, ("box", 15)),
        )))
        told = [is_made(SMALL, made), is_made(SMALL, (made[0], made[1][4:])), reads_of(SMALL, made, 7)]
        self.assertEqual(told, [True, False, (3,)])
        self.assertEqual(writes_of(SMALL, made, 0), (9, 10))
        self.assertEqual(atoms_of(SMALL, made), ((9, 1, 2), (11, 0, 1), (13, 0, 1), (14, 0, 1)))
        self.assertEqual(done(SMALL, FILLED, made, NONE, FIRST),
            ((7, 4, 0, 0, 1, 1, 70, 1, 0, 1, 4, 1, 0, 1, 1, 69), ((0, 0, 1, 0),)))

    def test_no_items(self):
        self.assertEqual(units_of(controlled()), (SMALL_WIDTHS, ()))
        self.assertEqual(atoms_of(controlled(), (SMALL_WIDTHS, ())), ())

    def test_sets_and_expressions(self):
        self.assertEqual(self.made(("set", OUT, 5)), ((), (("set", (), 1, ("word", 5)),)))
        self.assertEqual(self.made(("set", GONE, IN)), ((), (("set", (), 2, ("box", 0)),)))
        self.assertEqual(self.made(("set", OLD, ("held", "tag"))), ((), (("set", (), 3, ("box", 7)),)))
        within = ("xor", ("add", KIND, ("left", 1, OLD)), ("right", ("or", 1, 2), ("and", OUT, 3)))
        self.assertEqual(self.made(("set", OUT, within)), ((32,) * 6, (
            ("reckon", 9, "left", ONE, ("box", 3)), ("reckon", 10, "add", ("box", 5), ("box", 9)),
            ("reckon", 11, "or", ONE, ("word", 2)), ("reckon", 12, "and", ("box", 1), ("word", 3)),
            ("reckon", 13, "right", ("box", 11), ("box", 12)), ("reckon", 14, "xor", ("box", 10), ("box", 13)),
            ("set", (), 1, ("box", 14)),
        )))

    def test_fields_are_set_where_their_header_is_held(self):
        self.assertEqual(self.made(("set", TTL, ("sub", TTL, 1))), ((1, 32), (
            ("ask", 9, "other", ("box", 4), NOUGHT), ("reckon", 10, "sub", ("box", 6), ONE),
            ("set", ((9, 1),), 6, ("box", 10)),
        )))

    def test_put_and_strike(self):
        self.assertEqual(self.made(("put", "base"), ("strike", "tag")), ((), (
            ("set", (), 4, ONE), ("set", (), 5, NOUGHT), ("set", (), 6, NOUGHT),
            ("set", (), 7, NOUGHT), ("set", (), 8, NOUGHT),
        )))

    def test_touches(self):
        self.assertEqual(self.made(("touch", "hits", 3, "least", IN, None)), ((32,), (
            ("touch", (), 0, ("word", 3), "least", ("box", 0), 9),
        )))
        self.assertEqual(self.made(("touch", "hits", ("add", 1, 2), "set", ("sub", 3, 4), MARK)), ((32, 32, 32, 1), (
            ("reckon", 9, "add", ONE, ("word", 2)), ("reckon", 10, "sub", ("word", 3), ("word", 4)),
            ("touch", (), 0, ("box", 9), "set", ("box", 10), 11), ("ask", 12, "other", ("box", 7), NOUGHT),
            ("set", ((12, 1),), 8, ("box", 11)),
        )))
        self.assertEqual(self.made(("touch", "hits", 3, "or", 1, OUT))[1][1:], (("set", (), 1, ("box", 9)),))

    def test_conditions(self):
        one, other = ("below", OLD, ("add", 1, 2)), ("from", 3, KIND)
        condition = ("either", ("not", one), ("both", other, ("same", 1, 2)))
        self.assertEqual(self.made(("if", condition, (("set", OUT, 1),), (("set", OUT, 2), ("put", "tag")))), (
            (32, 1, 1, 1, 1, 1, 1), (
                ("reckon", 9, "add", ONE, ("word", 2)), ("ask", 10, "below", ("box", 3), ("box", 9)),
                ("ask", 11, "not", ("box", 10), NOUGHT), ("ask", 12, "from", ("word", 3), ("box", 5)),
                ("ask", 13, "same", ONE, ("word", 2)), ("ask", 14, "both", ("box", 12), ("box", 13)),
                ("ask", 15, "either", ("box", 11), ("box", 14)), ("set", ((15, 1),), 1, ONE),
                ("set", ((15, 0),), 1, ("word", 2)), ("set", ((15, 0),), 7, ONE), ("set", ((15, 0),), 8, NOUGHT),
            )))

    def test_ifs_within_ifs_and_tables_in_both_blocks(self):
        other = ("other", ((TTL, "exact"), (IN, "mask")), ("drop", "full"), ("drop", ()), 1)
        full = ("full", (("a", 4), ("b", 8)), (("set", MARK, ("param", "b")), ("set", OUT, ("param", "a"))))
        inner = (("if", ("same", 1, IN), (("table", "other"),), (("set", OUT, 9),)),)
        program = small_with(actions=SMALL[5] + (full,), tables=SMALL[6] + (other,),
            control=(("if", ("other", 1, IN), inner, (("table", "ways"), ("set", MARK, 1))),))
        self.assertTrue(is_program(program))
        widths, units = units_of(program)
        self.assertEqual(widths[9:], (1, 1, 3, 32, 32, 1, 3, 32, 1))
        self.assertEqual(units, (
            ("ask", 9, "other", ONE, ("box", 0)), ("ask", 10, "same", ONE, ("box", 0)),
            ("look", 1, (("box", 6), ("box", 0)), 11, (12, 13)), ("set", ((9, 1), (10, 1), (11, 1)), 2, ONE),
            ("ask", 14, "other", ("box", 7), NOUGHT), ("set", ((9, 1), (10, 1), (11, 2), (14, 1)), 8, ("box", 13)),
            ("set", ((9, 1), (10, 1), (11, 2)), 1, ("box", 12)), ("set", ((9, 1), (10, 0)), 1, ("word", 9)),
            ("look", 0, (("box", 6),), 15, (16,)), ("set", ((9, 0), (15, 1)), 1, ("box", 16)),
            ("set", ((9, 0), (15, 2)), 2, ONE), ("ask", 17, "other", ("box", 7), NOUGHT),
            ("set", ((9, 0), (17, 1)), 8, ONE),
        ))

    def test_actions_without_steps_and_without_params(self):
        program = small_with(actions=(("none", (), ()), ("send", (), ())),
            tables=(("ways", ((TTL, "range"),), ("send", "none"), ("none", ()), 4),), control=(("table", "ways"),))
        self.assertEqual(units_of(program), (SMALL_WIDTHS + (3,), (("look", 0, (("box", 6),), 9, ()),)))

    def test_200_units_and_250_boxes(self):
        program = wide_program(15, 3, heads=1)
        self.assertEqual(len(units_of(program)[1]), 200)
        with self.assertRaises(TooMany) as caught:
            units_of(wide_program(15, 4, heads=1))
        self.assertEqual(caught.exception.given, 201)
        # 89 boxes, 10 sets of 15 reckons each, one if.
        program = wide_program(0, 0, 150)
        self.assertEqual([len(part) for part in units_of(program)], [89 + 150 + 1, 161])
        self.assertEqual([len(part) for part in units_of(wide_program(0, 0, 159))], [89 + 159 + 2, 180])
        with self.assertRaises(TooMany) as caught:
            units_of(wide_program(0, 0, 160))
        self.assertEqual(caught.exception.given, 251)
        # Both are too many: of the units it is told.
        with self.assertRaises(TooMany) as caught:
            units_of(wide_program(2, 0, 160))
        self.assertEqual(caught.exception.given, 208)
        with self.assertRaises(TooMany) as caught:
            units_of(full_program())
        self.assertGreater(caught.exception.given, 1000)

    def test_units_of_wrong_programs(self):
        for value in JUNK + [SMALL[:7], list(SMALL), controlled(("put", "none"))]:
            assert_raises(self, InvalidProgram, "given", value, units_of, value)


class DoneTest(unittest.TestCase):
    def test_what_control_leaves_is_left(self):
        many = 0
        for seed in range(250):
            maker = Maker(seed)
            program = maker.program()
            made = units_of(program)
            self.assertIs(is_made(program, made), True)
            widths = box_widths(program[0], program[1])
            for _ in range(4):
                contents, cells, filling = maker.contents(program, widths), maker.cells(program), filling_for(maker,
                    program)
                left, cells_left = done(program, contents, made, cells, filling)
                self.assertEqual((left[:len(filling)], cells_left), behind(program, contents, cells, filling))
                self.assertTrue(all(0 <= word < 2 ** width for word, width in zip(left, made[0])))
                many += len(made[1])
        self.assertGreater(many, 20000)

    def done(self, *units, widths=(), filling=(1, 2, 0, 500, 1, 9), cells=((1, 2, 3, 4), (5, 6, 7)), contents=((), (),
        ())):
        made = (OWN + widths, units)
        self.assertIs(is_made(BASE, made), True)
        filled, left = done(BASE, contents, made, cells, filling)
        return filled[1:2] + filled[6:], left

    def test_asks(self):
        for ask, words, told in [
            ("same", (3, 3), 1), ("same", (3, 4), 0), ("other", (3, 3), 0), ("other", (3, 4), 1), ("below", (3, 4), 1),
            ("below", (3, 3), 0), ("from", (3, 3), 1), ("from", (3, 4), 0), ("both", (3, 1), 1), ("both", (3, 0), 0),
            ("both", (0, 3), 0), ("both", (0, 0), 0), ("either", (0, 4), 1), ("either", (4, 0), 1), ("either", (0, 0),
            0), ("either", (1, 1), 1), ("not", (0, 5), 1), ("not", (2, 0), 0), ("not", (0, 0), 1), ("not", (5, 5), 0),
        ]:
            one, other = [("word", word) for word in words]
            self.assertEqual(self.done(("ask", 6, ask, one, other), widths=(1,))[0], (2, told))

    def test_boxes_keep_words_modulo_their_width(self):
        reckon = ("reckon", 6, "sub", NOUGHT, ONE)
        for width in (1, 5, 31, 32):
            self.assertEqual(self.done(reckon, widths=(width,))[0], (2, 2 ** width - 1))
            self.assertEqual(self.done(("set", (), 6, ("word", 4294967294)), widths=(width,))[0], (2, 2 ** width - 2))
        self.assertEqual(self.done(("touch", (), 0, ONE, "add", ("word", 65535), 6), widths=(1,), cells=((0, 65535, 0,
            0), (5, 6, 7))), ((2, 1), ((0, 65534, 0, 0), (5, 6, 7))))

    def test_guards(self):
        asks = (("ask", 6, "same", ONE, ONE), ("ask", 7, "same", ONE, NOUGHT))
        for guard, told in [((), 7), (((6, 1),), 7), (((6, 0),), 2), (((6, 1), (7, 0)), 7), (((6, 1), (7, 1)), 2),
            (((6, 0), (7, 1)), 2)]:
            self.assertEqual(self.done(*asks, ("set", guard, 1, ("word", 7)), widths=(1, 1))[0][0], told)
            touch = ("touch", guard, 1, ("word", 4), "set", ("word", 256 + 9), 1)
            left = ((1, 2, 3, 4), (5, 9 if told == 7 else 6, 7))
            self.assertEqual(self.done(*asks, touch, widths=(1, 1))[1], left)

    def test_looks(self):
        entries = (((((1, 5), (2, 2)), "two", (1, 2)), (((0, 255), (0, 0)), "three", (9,))), ((((128, 1),), "three",
            (7,)),), ())
        look = ("look", 0, (("box", 0), ("box", 1)), 6, (7, 8))
        self.assertEqual(self.done(look, widths=(3, 32, 1), contents=entries)[0], (2, 2, 1, 0))
        self.assertEqual(self.done(look, widths=(3, 32, 8), contents=entries)[0], (2, 2, 1, 2))
        self.assertEqual(self.done(look, widths=(3, 32, 8), contents=entries, filling=(1, 1, 0, 0, 0, 0))[0], (1, 3, 9,
            0))
        self.assertEqual(self.done(look, widths=(3, 32, 32))[0], (2, 2, 3, 4))
        # What is sought is taken modulo 2 to the key's width.
        for word, told in [(128, (2, 7)), (256 + 127, (1, 0)), (256 + 200, (2, 7)), (0, (1, 0))]:
            look = ("look", 1, (("word", word),), 7, (6,))
            self.assertEqual(self.done(look, widths=(4, 3), contents=entries)[0], (2, told[1], told[0]))

    def test_what_is_sought_by_ranges_is_taken_modulo_too(self):
        entries = (((((1, 5), (0, 0)), "two", (1, 2)),), (), ())
        for word, hit in [(3, 2), (256 + 3, 2), (6, 3), (256 + 6, 3), (4294967040, 3), (4294967045, 2)]:
            look = ("look", 0, (("word", word), ("word", 512)), 6, (7, 8))
            program = BASE[:6] + ((TABLES[0][:3] + (("three", (9,)),) + TABLES[0][4:],) + TABLES[1:],) + BASE[7:]
            made = (OWN + (3, 32, 32), (look,))
            self.assertEqual(done(program, entries, made, ((0,) * 4, (0,) * 3), (0,) * 6)[0][6], hit)

    def test_units_are_done_one_behind_the_other(self):
        units = (("set", (), 1, ("box", 6)), ("reckon", 6, "add", ("box", 1), ("word", 5)), ("set", (), 7, ("box", 6)))
        self.assertEqual(self.done(*units, widths=(32, 32))[0], (0, 5, 5))
        touches = (("touch", (), 0, ("word", 6), "add", ("word", 10), 6), ("touch", (), 0, ("box", 6), "greatest",
            ("box", 6), 7), ("touch", (), 0, ("word", 2), "add", ("word", 1), 1))
        # Cell 2 was 3, so cell 3 is touched then, which is greater; then cell 2 is 13.
        self.assertEqual(self.done(*touches, widths=(32, 32)), ((13, 3, 4), ((1, 2, 14, 4), (5, 6, 7))))

    def test_a_register_of_three_cells_is_touched_modulo_three(self):
        for word in (0, 1, 2, 3, 7, 4294967295):
            cells = [5, 6, 7]
            cells[word % 3] = 1
            self.assertEqual(self.done(("touch", (), 1, ("word", word), "least", ONE, 6), widths=(1,))[1][1],
                tuple(cells))

    def test_wrong_parameters(self):
        made = units_of(SMALL)
        right = [SMALL, FILLED, made, NONE, FIRST]
        wrong = [
            (InvalidProgram, JUNK + [SMALL[:7]]), (InvalidContents, [(), FILLED[0], list(FILLED), (FILLED[0] * 3,)]),
            (InvalidUnits, [(), made[::-1], list(made), (made[0], made[1][1:]), made[:1]] + JUNK),
            (InvalidCells, [(), NONE[0], ((0, 0, 0),), ((0, 0, 0, True),), ((0, 0, 0, 65536),), [NONE[0]]]),
            (InvalidFilling, [FIRST[:8], FIRST + (0,), list(FIRST), (True,) + FIRST[1:], (256,) + FIRST[1:],
                FIRST[:7] + (0, 6), FIRST[:4] + (0, 1, 0, 0, 0), None, made[0]]),
        ]
        for at, (error, values) in enumerate(wrong):
            for value in values:
                assert_raises(self, error, "given", value, done, *right[:at], value, *[None] * (4 - at))
                names = ("program", "contents", "made", "cells", "filling")
                assert_raises(self, error, "given", value, done,
                    **dict(zip(names, right[:at] + [value] + right[at + 1:])))
        self.assertEqual(done(*right), done(filling=FIRST, cells=NONE, made=made, contents=FILLED, program=SMALL))


class MadeTest(unittest.TestCase):
    def assert_made(self, told, *units, widths=()):
        value = (OWN + widths, units)
        self.assertIs(is_made(BASE, value), told, value)
        if not told:
            assert_raises(self, InvalidUnits, "given", value, atoms_of, BASE, value)

    def test_made_up_ones(self):
        for _, made, told in cases(300, 14):
            self.assertIs(is_made(BASE, made), True)
            for index in range(len(made[1])):
                self.assertEqual(reads_of(BASE, made, index), tuple(told.reads(index)))
                self.assertEqual(writes_of(BASE, made, index), tuple(told.writes(index)))
            self.assertEqual(atoms_of(BASE, made), tuple((atom, told.worths[atom][0], told.worths[atom][-1]) for atom in
                sorted(told.worths)))

    def test_each_part_exchanged_or_left_out(self):
        other = {"ask": None, "look": True}
        for _, made, _ in cases(40, 5):
            for at, unit in enumerate(made[1]):
                for inner in range(len(unit)):
                    for value in (None, True, "box", (), [], -1, 10 ** 399, other, ("box",), ("word", True), unit):
                        bent = unit[:inner] + (value,) + unit[inner + 1:]
                        if inner in (1, 4) and unit[0] in ("set", "touch", "look") and value == ():
                            continue
                        self.assertIs(is_made(BASE, (made[0], made[1][:at] + (bent,) + made[1][at + 1:])), False, bent)
                for bent in (unit[:-1], unit + (0,), list(unit), None, unit[1:]):
                    self.assertIs(is_made(BASE, (made[0], made[1][:at] + (bent,) + made[1][at + 1:])), False, bent)
            self.assertIs(is_made(BASE, (made[0], list(made[1]))), made[1] == [])
            self.assertIs(is_made(BASE, (list(made[0]), made[1])), False)

    def test_widths(self):
        for widths in [(), (1,), (32,), (1, 32) * 60, (5,) * (250 - len(OWN))]:
            self.assert_made(True, widths=widths)
        for widths in [(0,), (33,), (True,), (None,), ("8",), (-1,), ((8,),), (5,) * (251 - len(OWN)), (10 ** 399,)]:
            self.assert_made(False, widths=widths)
        for widths in [OWN[:-1], (), OWN[::-1], (9,) + OWN[1:], OWN[:2] + (True,) + OWN[3:], OWN[:1] + OWN]:
            self.assertIs(is_made(BASE, (widths, ())), False)

    def test_up_to_200_units(self):
        unit = ("set", (), 1, ONE)
        self.assert_made(True, *[unit] * 200)
        self.assert_made(False, *[unit] * 201)

    def test_junk(self):
        for value in JUNK + [(), (OWN,), (OWN, (), ()), (OWN, None), (None, ()), [OWN, ()], ((), ()), (OWN, ((),))]:
            self.assertIs(is_made(BASE, value), False)
            self.assertIs(is_made(value=value, program=BASE), False)
            for call in (reads_of, writes_of):
                assert_raises(self, InvalidUnits, "given", value, call, BASE, value, None)
                assert_raises(self, InvalidProgram, "given", value, call, value, value, None)
            assert_raises(self, InvalidUnits, "given", value, atoms_of, BASE, value)
            assert_raises(self, InvalidProgram, "given", value, atoms_of, value, None)
            assert_raises(self, InvalidProgram, "given", value, is_made, value, (OWN, ()))
        made = units_of(SMALL)
        for value in [-1, 11, True, None, "0", 10 ** 399, (0,), [0]]:
            for call in (reads_of, writes_of):
                assert_raises(self, InvalidNumber, "given", value, call, SMALL, made, value)
                assert_raises(self, InvalidNumber, "given", value, call, unit=value, made=made, program=SMALL)

    def test_operands(self):
        for part in [("box", 0), ("box", 6), ("word", 0), ("word", 4294967295)]:
            self.assert_made(True, ("set", (), 1, part), widths=(1,))
        for part in [("box", 7), ("box", -1), ("box", True), ("box", None), ("word", 4294967296), ("word", -1),
            ("word", True), ("word",), ("word", 1, 1), ["word", 1], 1, ("param", 1), ("Box", 1), (None, 1),
                ("box", "1"),
            ("local", "in"), ("held", "head")]:
            self.assert_made(False, ("set", (), 1, part), widths=(1,))
            self.assert_made(False, ("ask", 6, "not", ONE, part), widths=(1,))
            self.assert_made(False, ("ask", 6, "not", part, ONE), widths=(1,))
            self.assert_made(False, ("reckon", 6, "add", ONE, part), widths=(1,))
            self.assert_made(False, ("reckon", 6, "add", part, ONE), widths=(1,))
            self.assert_made(False, ("look", 2, (part,), 6, ()), widths=(3,))
            self.assert_made(False, ("touch", (), 0, part, "add", ONE, 6), widths=(3,))
            self.assert_made(False, ("touch", (), 0, ONE, "add", part, 6), widths=(3,))

    def test_boxes_of_asks_looks_and_reckons(self):
        for ask in ("same", "other", "below", "from", "both", "either", "not"):
            self.assert_made(True, ("ask", 6, ask, ONE, ONE), widths=(1,))
        for ask in ("add", "Same", "and", None, ("same",), 1, "least"):
            self.assert_made(False, ("ask", 6, ask, ONE, ONE), widths=(1,))
        for box, widths in [(6, (2,)), (6, (32,)), (5, (1,)), (2, (1,)), (4, (1,)), (7, (1,)), (True, (1,)),
            (-1, (1,))]:
            self.assert_made(False, ("ask", box, "same", ONE, ONE), widths=widths)
        for op in ("add", "sub", "and", "or", "xor", "left", "right"):
            self.assert_made(True, ("reckon", 6, op, ONE, ONE), widths=(1,))
        for op in ("same", "greatest", None, ("add",), "Add"):
            self.assert_made(False, ("reckon", 6, op, ONE, ONE), widths=(1,))
        for box in (5, 0, 7, -1, None, True):
            self.assert_made(False, ("reckon", box, "add", ONE, ONE), widths=(1,))
            self.assert_made(False, ("look", 2, (ONE,), box, ()), widths=(3,))
        for width in (3, 4, 32):
            self.assert_made(True, ("look", 2, (ONE,), 6, ()), widths=(width,))
        for width in (1, 2):
            self.assert_made(False, ("look", 2, (ONE,), 6, ()), widths=(width,))
        two = (ONE, ONE)
        self.assert_made(True, ("look", 0, two, 8, (7, 6)), widths=(1, 1, 3))
        for parts in [(0, two, 8, (7,)), (0, two, 8, (7, 6, 9)), (0, two, 8, (7, 7)), (0, two, 8, (8, 7)),
            (0, two, 8, (7,
            5)), (0, two, 8, [7, 6]), (0, two, 8, (7, 10)), (0, (ONE,), 8, (7, 6)), (0, two + two, 8, (7, 6)), (0, list(
            two), 8, (7, 6)), (3, two, 8, (7, 6)), (-1, two, 8, (7, 6)), (True, (ONE,), 8, (7,)), (1, (ONE,), 8, ()),
            (1, (ONE,), 8, (7, 6)), (0, two, 8, (True, 6)), (None, two, 8, (7, 6)), ("first", two, 8, (7, 6))]:
            self.assert_made(False, ("look", *parts), widths=(1, 1, 3, 1))
        self.assert_made(True, ("look", 1, (ONE,), 8, (7,)), ("look", 1, (ONE,), 9, (6,)), widths=(1, 1, 3, 3))

    def test_what_is_written_by_one_unit_alone(self):
        ask, reckon = ("ask", 6, "same", ONE, ONE), ("reckon", 7, "add", ONE, ONE)
        look = ("look", 1, (ONE,), 8, (9,))
        widths = (1, 1, 3, 1)
        self.assert_made(True, ask, reckon, look, widths=widths)
        for unit in (ask, reckon, look):
            self.assert_made(False, ask, reckon, look, unit, widths=widths)
        for box in range(10):
            for unit in (("set", (), box, ONE), ("touch", (), 0, ONE, "add", ONE, box)):
                self.assert_made(box < 6, ask, reckon, look, unit, widths=widths)
                self.assert_made(box < 6, unit, unit, ask, reckon, look, widths=widths)
        for units in [(ask, ("reckon", 6, "add", ONE, ONE)), (look, ("look", 1, (ONE,), 9, (8,))),
            (look, ("look", 1, (ONE,), 10, (9,))), (reckon, ("ask", 7, "same", ONE, ONE))]:
            self.assert_made(False, *units, widths=(1, 1, 3, 3, 3))
        for box in (0, 1, 5, 6):
            self.assert_made(True, ("set", (), box, ONE), ("set", (), box, ONE), ("touch", (), 1, ONE, "or", ONE, box),
                widths=(7,))
        for box in (7, -1, None, True, "1", (1,)):
            self.assert_made(False, ("set", (), box, ONE), widths=(7,))
            self.assert_made(False, ("touch", (), 1, ONE, "or", ONE, box), widths=(7,))

    def test_registers_and_ways(self):
        for way in ("add", "set", "greatest", "least", "or"):
            for number in (0, 1):
                self.assert_made(True, ("touch", (), number, ONE, way, ONE, 1))
        for way in ("sub", None, ("add",), "and", "Add", 1):
            self.assert_made(False, ("touch", (), 0, ONE, way, ONE, 1))
        for number in (2, -1, True, None, "hits", (0,)):
            self.assert_made(False, ("touch", (), number, ONE, "add", ONE, 1))

    def test_boxes_may_be_read_ahead_and_written_by_none(self):
        self.assert_made(True, ("set", (), 1, ("box", 6)), ("ask", 6, "same", ("box", 7), ("box", 6)), widths=(1, 4))

    def test_guards(self):
        asks = [("ask", 6 + at, "same", ONE, ONE) for at in range(9)]
        look = ("look", 0, (ONE, ONE), 15, (16, 17))
        one = ("look", 2, (ONE,), 18, ())
        widths = (1,) * 9 + (3, 1, 1, 3)
        units = [*asks, look, one]
        right = [(), ((6, 0),), ((6, 1),), ((6, 1), (7, 0)), tuple((6 + at, 1) for at in range(8)), ((15, 1),),
            ((15, 3),),
            ((14, 0), (15, 2), (18, 1))]
        wrong = [
            tuple((6 + at, 1) for at in range(9)), ((6, 2),), ((6, -1),), ((6, True),), ((6, False),), ((15, 0),),
            ((15, 4),), ((18, 0),), ((18, 2),), ((7, 0), (6, 1)), ((6, 1), (6, 1)), ((6, 1), (6, 0)), ((16, 0),),
            ((17, 1),), ((5, 1),), ((2, 1),), ((19, 1),), ((-1, 1),), ((True, 1),), ((None, 1),), ((6, None),), ((6,),),
            ((6, 1, 1),), [(6, 1)], ([6, 1],), (6, 1), None, ((6, "1"),), (((6,), 1),), ((10 ** 399, 1),), {6: 1},
        ]
        for guard, is_right in [(guard, True) for guard in right] + [(guard, False) for guard in wrong]:
            self.assert_made(is_right, *units, ("set", guard, 1, ONE), widths=widths)
            self.assert_made(is_right, *units, ("touch", guard, 0, ONE, "or", ONE, 1), widths=widths)
        # A guard asks what is written further ahead alone.
        self.assert_made(False, ("set", ((6, 1),), 1, ONE), *units, widths=widths)
        self.assert_made(False, *asks[:1], ("set", ((15, 1),), 1, ONE), *asks[1:], look, one, widths=widths)
        self.assert_made(True, *asks[:1], ("set", ((6, 1),), 1, ONE), *asks[1:], look, one, widths=widths)
        self.assert_made(False, ("reckon", 6, "add", ONE, ONE), ("set", ((6, 1),), 1, ONE), widths=(1,))
        self.assert_made(False, ("set", (), 6, ONE), ("set", ((6, 1),), 1, ONE), widths=(1,))

    def test_each_of_a_programs_own_units_is_right(self):
        made = units_of(SMALL)
        told = Told(SMALL, made)
        for index in range(len(made[1])):
            self.assertEqual(reads_of(SMALL, made, index), tuple(told.reads(index)))
        for at in range(len(made[1])):
            without = (made[0], made[1][:at] + made[1][at + 1:])
            asked = [atom for other in range(len(made[1])) for atom, _ in told.guard(other)]
            self.assertIs(is_made(SMALL, without), not any(box in asked for box in told.writes(at)))
        self.assertEqual(first_cells(SMALL), NONE)


if __name__ == "__main__":
    unittest.main()
