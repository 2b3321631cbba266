"""Point 16: what steps, expressions, conditions, ifs and tables do."""

import unittest

from switchstages.errors import InvalidCells, InvalidContents, InvalidFilling, InvalidProgram
from switchstages.programs import behind, boxes_of, first_cells, is_program, widths_of
from tests.makers import Maker
from tests.plainly import Plainly
from tests.samples import JUNK, assert_raises
from tests.small import FILLED, GONE, IN, KIND, MARK, NONE, OLD, OUT, SMALL, TTL, controlled, deep_ifs, small_with

FILLING = (7, 0, 0, 0, 1, 9, 200, 0, 0)
BOTH = (7, 0, 0, 0, 1, 9, 200, 1, 77)
TOP = 4294967295


def done(items, filling=FILLING, cells=NONE, contents=FILLED, program=None):
    """What comes of some items in the small program: out, gone, old, the boxes of both headers, the cells."""
    found = controlled(*items) if program is None else program
    told, left = behind(found, contents, cells, filling)
    return told[1:], left[0]


def worth(expression, filling=FILLING):
    """What an expression is worth, by a local of 32 bits."""
    program = small_with(locals=(("wide", 32), ("old", 16)), control=(("set", ("local", "wide"), expression),))
    return behind(program, FILLED, NONE, filling[:3] + (0,) + filling[3:])[0][3]


class ExpressionsTest(unittest.TestCase):
    def test_words_places_and_held(self):
        told = [worth(value) for value in (0, 5, TOP, IN, KIND, TTL, MARK, ("held", "base"), ("held", "tag"))]
        self.assertEqual(told, [0, 5, TOP, 7, 9, 200, 0, 1, 0])
        self.assertEqual([worth(MARK, BOTH), worth(("held", "tag"), BOTH)], [77, 1])

    def test_sums_and_differences_are_modulo_2_to_32(self):
        self.assertEqual(worth(("add", TOP, 1)), 0)
        self.assertEqual(worth(("add", TOP, TOP)), TOP - 1)
        self.assertEqual(worth(("add", 2147483648, 2147483648)), 0)
        self.assertEqual(worth(("sub", 0, 1)), TOP)
        self.assertEqual(worth(("sub", 0, TOP)), 1)
        self.assertEqual(worth(("sub", 5, 5)), 0)
        self.assertEqual(worth(("sub", KIND, 10)), TOP)
        self.assertEqual(worth(("add", ("sub", 0, 1), ("add", TOP, 3))), 1)

    def test_bits(self):
        self.assertEqual([worth((op, 12, 10)) for op in ("and", "or", "xor")], [8, 14, 6])
        self.assertEqual([worth((op, TOP, 0)) for op in ("and", "or", "xor")], [0, TOP, TOP])

    def test_shifts_are_by_the_second_one_modulo_32(self):
        for shift, left, right in [
            (0, 2147483651, 2147483651), (1, 6, 1073741825), (31, 2147483648, 1), (32, 2147483651, 2147483651),
            (33, 6, 1073741825), (63, 2147483648, 1), (64, 2147483651, 2147483651), (TOP, 2147483648, 1),
        ]:
            self.assertEqual(worth(("left", 2147483651, shift)), left)
            self.assertEqual(worth(("right", 2147483651, shift)), right)

    def test_both_parts_in_their_order(self):
        self.assertEqual(worth(("sub", ("left", 1, 4), ("right", 8, 2))), 14)
        self.assertEqual(worth(("left", 2, 3)), 16)

    def test_conditions_at_their_bounds(self):
        for cond, told in [
            ("same", [False, True, False]), ("other", [True, False, True]), ("below", [True, False, False]),
            ("from", [False, True, True]),
        ]:
            for word, holds in zip((8, 9, 10), told):
                out, _ = done([("if", (cond, word, KIND), (("set", OUT, 1),), (("set", OUT, 2),))])
                self.assertEqual(out[0], 1 if holds else 2)
            for word, holds in zip((0, TOP), (told[0], told[2])):
                out, _ = done([("if", (cond, word, 2147483648), (("set", OUT, 1),), ())])
                self.assertEqual(out[0], int(holds))

    def test_not_both_either(self):
        yes, no = ("same", 1, 1), ("same", 1, 2)
        for one, two in [(yes, yes), (yes, no), (no, yes), (no, no)]:
            both, either = one == yes and two == yes, one == yes or two == yes
            for condition, holds in [
                (("both", one, two), both), (("either", one, two), either), (("not", one), one == no),
                (("not", ("both", one, two)), not both), (("either", ("not", one), two), one == no or two == yes),
            ]:
                out, _ = done([("if", condition, (("set", OUT, 1),), (("set", OUT, 2),))])
                self.assertEqual(out[0], 1 if holds else 2)


class StepsTest(unittest.TestCase):
    def test_sets_into_narrower_places(self):
        told, _ = done([("set", OUT, 511), ("set", GONE, 3), ("set", OLD, 65537), ("set", KIND, 256),
            ("set", TTL, TOP)])
        self.assertEqual(told, (255, 1, 1, 1, 0, 255, 0, 0))
        told, _ = done([("set", GONE, 2), ("set", OUT, ("sub", 0, 1))])
        self.assertEqual(told[:2], (255, 0))

    def test_a_field_that_is_not_held_is_not_set(self):
        self.assertEqual(done([("set", MARK, 5)])[0], FILLING[1:])
        self.assertEqual(done([("set", MARK, 5)], BOTH)[0], BOTH[1:8] + (5,))
        self.assertEqual(done([("put", "tag"), ("set", MARK, 5)])[0][-2:], (1, 5))
        self.assertEqual(done([("strike", "base"), ("set", TTL, 5)])[0][3:6], (0, 0, 0))

    def test_put_and_strike(self):
        self.assertEqual(done([("put", "tag")])[0], FILLING[1:7] + (1, 0))
        self.assertEqual(done([("put", "tag")], BOTH)[0], BOTH[1:7] + (1, 0))
        self.assertEqual(done([("put", "base")])[0], (0, 0, 0, 1, 0, 0, 0, 0))
        self.assertEqual(done([("strike", "base")])[0], (0,) * 8)
        self.assertEqual(done([("strike", "tag")])[0], FILLING[1:])
        self.assertEqual(done([("strike", "tag")], BOTH)[0], FILLING[1:])
        self.assertEqual(done([("strike", "base"), ("put", "base")], BOTH)[0], (0, 0, 0, 1, 0, 0, 1, 77))

    def test_touches_in_all_five_ways(self):
        for way, word, cell in [
            ("add", 3, 8), ("add", 65535, 4), ("add", 65531, 0), ("add", 65536, 5), ("set", 3, 3), ("set", 65536, 0),
            ("greatest", 4, 5), ("greatest", 5, 5), ("greatest", 6, 6), ("greatest", 65540, 5), ("least", 4, 4),
            ("least", 6, 5), ("least", 65537, 1), ("or", 2, 7), ("or", 65536 + 8, 13), ("or", 0, 5),
        ]:
            told, cells = done([("touch", "hits", 2, way, word, OLD)], cells=((1, 2, 5, 4),))
            self.assertEqual((told[2], cells), (5, (1, 2, cell, 4)))

    def test_the_index_is_modulo_how_many_cells_there_are(self):
        for at, cell in [(0, 0), (3, 3), (4, 0), (5, 1), (TOP, 3), (("sub", 0, 2), 2), (TTL, 0), (KIND, 1)]:
            _, cells = done([("touch", "hits", at, "add", 1, None)])
            self.assertEqual(cells, tuple(int(index == cell) for index in range(4)))
        program = small_with(registers=(("hits", 16, 3),), control=(("touch", "hits", 8, "set", 9, None),))
        self.assertEqual(behind(program, FILLED, ((0, 0, 0),), FILLING)[1], ((0, 0, 9),))

    def test_into(self):
        cells = ((0, 0, 0, 511),)
        touch = ("touch", "hits", 3, "add", 1)
        self.assertEqual(done([touch + (None,)], cells=cells), (FILLING[1:], (0, 0, 0, 512)))
        self.assertEqual(done([touch + (OUT,)], cells=cells)[0][0], 255)
        self.assertEqual(done([touch + (GONE,)], cells=cells)[0][1], 1)
        self.assertEqual(done([touch + (OLD,)], cells=cells)[0][2], 511)
        self.assertEqual(done([touch + (TTL,)], cells=cells)[0][5], 255)
        self.assertEqual(done([touch + (MARK,)], cells=cells), (FILLING[1:], (0, 0, 0, 512)))
        self.assertEqual(done([touch + (MARK,)], BOTH, cells=cells)[0][-1], 255)

    def test_both_expressions_are_reckoned_ahead(self):
        told, cells = done([("touch", "hits", OLD, "add", ("add", OLD, 1), OLD)], cells=((8, 9, 10, 11),))
        self.assertEqual((told[2], cells), (8, (9, 9, 10, 11)))
        told, cells = done([("set", OLD, 2), ("touch", "hits", OLD, "set", OLD, OLD)], cells=((8, 9, 10, 11),))
        self.assertEqual((told[2], cells), (10, (8, 9, 2, 11)))

    def test_steps_are_done_in_order(self):
        told, cells = done([
            ("set", OUT, 1), ("set", OUT, ("add", OUT, OUT)), ("touch", "hits", OUT, "add", OUT, None),
            ("touch", "hits", OUT, "add", OUT, OLD), ("set", OUT, ("add", OUT, OLD)),
        ])
        self.assertEqual((told[0], told[2], cells), (4, 2, (0, 0, 4, 0)))


class ItemsTest(unittest.TestCase):
    def test_nested_ifs(self):
        for deep in range(1, 5):
            for branch in (0, 1):
                control = deep_ifs(deep, (("set", OUT, 5),), branch) + (("set", OLD, 1),)
                told, _ = behind(small_with(control=control), FILLED, NONE, FILLING)
                self.assertEqual((told[1], told[3]), (5 if branch == 0 else 0, 1))
        inner = ("if", ("same", KIND, 9), (("set", OUT, 1),), (("set", OUT, 2),))
        other = ("if", ("same", KIND, 8), (("set", OUT, 3),), (("set", OUT, 4),))
        for condition, out in [(("same", 1, 1), 1), (("same", 1, 2), 4)]:
            self.assertEqual(done([("if", condition, (inner,), (other,))])[0][0], out)

    def test_the_condition_is_asked_once_and_ahead_of_the_block(self):
        told, _ = done([("if", ("same", KIND, 9), (("set", KIND, 8), ("set", OUT, 1)), (("set", OUT, 2),))])
        self.assertEqual((told[0], told[4]), (1, 8))

    def test_tables_hit_and_by_default(self):
        ways = [("table", "ways")]
        for ttl, told in [(0, (0, 1)), (1, (3, 0)), (64, (3, 0)), (65, (4, 0)), (255, (4, 0))]:
            self.assertEqual(done(ways, FILLING[:6] + (ttl, 0, 0))[0][:2], told)
        self.assertEqual(done(ways, contents=((),))[0][:2], (0, 1))
        self.assertEqual(done([("set", TTL, 65)] + ways)[0][:2], (4, 0))
        self.assertEqual(done([("strike", "base")] + ways)[0][:2], (0, 1))

    def test_the_first_entry_that_is_hit_counts(self):
        contents = (((((1, 64),), "send", (3,)), (((64, 70),), "send", (5,)), (((0, 255),), "drop", ())),)
        for ttl, told in [(64, (3, 0)), (65, (5, 0)), (71, (0, 1)), (0, (0, 1))]:
            self.assertEqual(done([("table", "ways")], FILLING[:6] + (ttl, 0, 0), contents=contents)[0][:2], told)

    def test_several_keys_of_all_kinds_all_have_to_be_hit(self):
        keys = ((KIND, "exact"), (TTL, "prefix"), (OLD, "mask"))
        actions = (("keep", (("one", 16), ("two", 8)), (("set", OLD, ("param", "one")),
            ("set", OUT, ("param", "two")))),)
        table = ("ways", keys, ("keep",), ("keep", (7, 8)), 2)
        program = small_with(actions=actions, tables=(table,), control=(("set", OLD, IN), ("table", "ways")))
        contents = ((((9, (192, 2), (1, 1)), "keep", (500, 200)),),)
        for came, kind, ttl, old, out in [
            (7, 9, 200, 500, 200), (7, 9, 255, 500, 200), (6, 9, 200, 7, 8), (7, 8, 200, 7, 8), (7, 9, 191, 7, 8),
            (255, 9, 192, 500, 200),
        ]:
            told, _ = behind(program, contents, NONE, (came, 0, 0, 0, 1, kind, ttl, 0, 0))
            self.assertEqual((told[3], told[1]), (old, out))

    def test_params_of_one_action_are_not_those_of_another(self):
        actions = (
            ("one", (("p", 8), ("q", 8)), (("set", OUT, ("add", ("param", "p"), ("param", "q"))),)),
            ("two", (("q", 8),), (("set", OLD, ("param", "q")),)),
        )
        tables = (("s", ((IN, "exact"),), ("one",), ("one", (10, 20)), 1),
            ("t", ((IN, "exact"),), ("two",), ("two", (3,)), 1))
        program = small_with(actions=actions, tables=tables, control=(("table", "t"), ("table", "s")))
        self.assertIs(is_program(program), True)
        told, _ = behind(program, ((), ()), NONE, FILLING)
        self.assertEqual((told[1], told[3]), (30, 3))

    def test_what_is_looked_up_is_what_the_boxes_have_then(self):
        tables = (
            ("s", ((OUT, "exact"),), ("send",), ("send", (5,)), 2),
            ("t", ((OUT, "exact"),), ("send",), ("send", (6,)), 2),
        )
        program = small_with(tables=tables, control=(("table", "s"), ("table", "t")))
        self.assertEqual(behind(program, ((), (((5,), "send", (9,)),)), NONE, FILLING)[0][1], 9)


class BehindTest(unittest.TestCase):
    def test_the_example(self):
        told = behind(SMALL, FILLED, NONE, (7, 0, 0, 0, 1, 0, 9, 0, 0))
        self.assertEqual(told, ((7, 3, 0, 0, 1, 0, 8, 0, 0), ((0, 0, 0, 0),)))
        self.assertEqual(behind(filling=FILLING, cells=NONE, contents=FILLED, program=controlled()), (FILLING, NONE))

    def test_each_filling_may_come_in(self):
        filling = (255, 255, 1, 65535, 1, 255, 255, 1, 255)
        self.assertEqual(behind(controlled(), FILLED, ((65535,) * 4,), filling), (filling, ((65535,) * 4,)))

    def test_wrong_fillings_are_told(self):
        wrong = JUNK + [
            (), FILLING[:8], FILLING + (0,), list(FILLING), (256,) + FILLING[1:], (True,) + FILLING[1:],
            (7, 256, 0, 0, 1, 9, 200, 0, 0), (7, 0, 2, 0, 1, 9, 200, 0, 0), (7, 0, 0, 65536, 1, 9, 200, 0, 0),
            (7, 0, 0, 0, 2, 9, 200, 0, 0), (7, 0, 0, 0, 0, 9, 200, 0, 0), (7, 0, 0, 0, 0, 0, 200, 0, 0),
            (7, 0, 0, 0, 1, 9, 200, 0, 1), (7, 0, 0, 0, 1, 9, 256, 0, 0), (7, 0, 0, 0, 1, 9, 200, 1, 256),
            (7, -1, 0, 0, 1, 9, 200, 0, 0), (7, None, 0, 0, 1, 9, 200, 0, 0), (7, 0, False, 0, 1, 9, 200, 0, 0),
            (7, 0, 0, 0, True, 9, 200, 0, 0), (7, 0, 0, "0", 1, 9, 200, 0, 0), (7, 0, 0, (0,), 1, 9, 200, 0, 0),
        ]
        for value in wrong:
            assert_raises(self, InvalidFilling, "given", value, behind, SMALL, FILLED, NONE, value)
            assert_raises(self, InvalidFilling, "given", value, behind, filling=value, cells=NONE, contents=FILLED,
                          program=SMALL)

    def test_the_first_wrong_parameter_is_told(self):
        assert_raises(self, InvalidProgram, "given", 1, behind, 1, 2, 3, 4)
        assert_raises(self, InvalidContents, "given", 2, behind, filling=4, cells=3, contents=2, program=SMALL)
        assert_raises(self, InvalidCells, "given", 3, behind, filling=4, cells=3, contents=FILLED, program=SMALL)
        assert_raises(self, InvalidFilling, "given", 4, behind, SMALL, FILLED, NONE, 4)


class ManyProgramsTest(unittest.TestCase):
    def test_many_programs_do_what_they_do_told_another_way(self):
        changed = 0
        for seed in range(400):
            maker = Maker(seed)
            program = maker.program()
            self.assertIs(is_program(program), True, seed)
            boxes = [("field",) + box if len(box) == 2 and box[0] != "local" else box for box in boxes_of(program)]
            contents = maker.contents(program, dict(zip(boxes, widths_of(program))))
            for _ in range(4):
                plainly = Plainly(program, contents, maker.cells(program))
                for name in plainly.own:
                    plainly.own[name] = maker.word(plainly.wide[name])
                for name, fields in program[0]:
                    plainly.heads[name] = maker.pick([None, {field: maker.word(width) for field, width in fields}])
                filling, cells = plainly.filling(), plainly.left()
                told = behind(program, contents, cells, filling)
                plainly.control()
                self.assertEqual(told, (plainly.filling(), plainly.left()), seed)
                self.assertEqual(told, behind(program, contents, cells, filling))
                changed += told != (filling, cells)
        self.assertGreater(changed, 600)

    def test_no_program_leaves_fields_of_headers_that_are_not_held(self):
        for seed in range(400, 500):
            maker = Maker(seed)
            program = maker.program()
            told, _ = behind(program, ((),) * len(program[6]), first_cells(program), (0,) * len(boxes_of(program)))
            held = dict(zip(boxes_of(program), told))
            for name, fields in program[0]:
                for field, _ in fields:
                    self.assertTrue(held[(name,)] == 1 or held[(name, field)] == 0)


if __name__ == "__main__":
    unittest.main()
