"""Points 13 to 19 at their bounds and one beyond, by all four functions that look at programs, contents and cells."""

import unittest

from switchstages.errors import InvalidCells, InvalidContents, InvalidFilling, InvalidProgram
from switchstages.programs import behind, is_cells, is_contents, is_program, widths_of
from tests.samples import assert_raises
from tests.small import PARTS, deep_condition, deep_expression, deep_ifs, full_program

FULL = full_program()
NAMES = [name for name, _ in FULL[0]]
MOST = 4294967295
PLACE, OTHER = ("field", NAMES[0], NAMES[0]), ("field", NAMES[1], FULL[0][1][1][4][0])
ENTRY = (((0, MOST), (15, 15), (15, 4)), NAMES[0], (MOST,) * 4)
CONTENTS = ((ENTRY,) * 32,) * 6
CELLS = ((MOST,) * 16,) * 4
FILLING = (255, 255, 1) + (MOST,) * 8 + sum(
    [(1,) + tuple(2 ** width - 1 for _, width in fields) for _, fields in FULL[0]], ())
TOUCH = FULL[5][0][2][0]


def replaced(value, at, part):
    """A tuple with another element there; at may be a row of indexes, one within the other."""
    if isinstance(at, tuple):
        if len(at) > 1:
            return replaced(value, at[0], replaced(value[at[0]], at[1:], part))
        at = at[0]
    return value[:at] + (part,) + value[at + 1:]


def full_with(part, at, value):
    """The full program with another value there in this part."""
    index = PARTS.index(part)
    return replaced(FULL, index, replaced(FULL[index], at, value))


def programs_beyond():
    """Programs that are one beyond the full one at just one place."""
    names = [action[0] for action in FULL[5]]
    yield replaced(FULL, 1, FULL[1] + (("more", 1),))
    yield full_with("locals", 0, (FULL[1][0][0], 33))
    yield full_with("locals", 0, (FULL[1][0][0] + "x", 32))
    yield replaced(FULL, 4, FULL[4] + (("more", 1, 1),))
    yield full_with("registers", 0, FULL[4][0][:1] + (33, 16))
    yield full_with("registers", 0, FULL[4][0][:1] + (32, 17))
    yield replaced(FULL, 5, FULL[5] + (("more", (), ()),))
    yield full_with("actions", (0, 1), FULL[5][0][1] + (("more", 1),))
    yield full_with("actions", (0, 2), FULL[5][0][2] + (TOUCH,))
    yield replaced(FULL, 6, FULL[6] + (("more",) + FULL[6][0][1:],))
    yield full_with("tables", (0, 1), FULL[6][0][1] + ((("local", "gone"), "exact"),))
    yield full_with("tables", (0, 1), ((PLACE, "range"), (("local", FULL[1][0][0]), "exact")))
    yield full_with("tables", (0, 2), FULL[6][0][2] + (names[6],))
    yield full_with("tables", (0, 3), (names[5], (MOST, MOST, MOST, MOST + 1)))
    yield full_with("tables", (0, 4), 33)
    yield full_with("control", 0, deep_ifs(5)[0])
    yield replaced(FULL, 7, FULL[7] + (("put", NAMES[0]),))
    for step in [("set", PLACE, deep_expression(6)), ("set", PLACE, MOST + 1), ("set", PLACE, ("add", -1, 1)),
        ("touch", FULL[4][0][0], deep_expression(6), "add", 1, None), ("set", ("local", "in"), 1), ("put", "none")]:
        yield full_with("control", 0, step)
        yield full_with("actions", (11, 2, 0), step)
        yield full_with("actions", (0, 2, 7), step)
    yield full_with("control", 0, ("if", deep_condition(5), (), ()))
    yield full_with("control", 0, ("if", deep_condition(4, ("same", deep_expression(6), 1)), (), ()))
    yield full_with("control", 0, ("set", PLACE, ("param", FULL[5][0][1][0][0])))
    yield full_with("actions", (0, 2, 0), ("set", PLACE, ("param", "none")))
    yield full_with("headers", (0, 1), FULL[0][0][1] + (("more", 8),))
    yield FULL[:7]
    yield FULL + ((),)


class BoundsTest(unittest.TestCase):
    def test_the_full_program(self):
        self.assertIs(is_program(FULL), True)
        self.assertIs(is_contents(FULL, CONTENTS), True)
        self.assertIs(is_cells(FULL, CELLS), True)
        self.assertEqual(len(FILLING), len(widths_of(FULL)))
        filling, cells = behind(FULL, CONTENTS, CELLS, FILLING)
        self.assertEqual([len(filling), [len(row) for row in cells]], [len(FILLING), [16] * 4])
        self.assertEqual(behind(filling=FILLING, cells=CELLS, contents=CONTENTS, program=FULL), (filling, cells))

    def test_programs_one_beyond(self):
        many = 0
        for program in programs_beyond():
            many += 1
            self.assertIs(is_program(program), False, program)
            self.assertIs(is_program(value=program), False)
            assert_raises(self, InvalidProgram, "given", program, is_contents, program, CONTENTS)
            assert_raises(self, InvalidProgram, "given", program, is_cells, value=CELLS, program=program)
            assert_raises(self, InvalidProgram, "given", program, behind, program, CONTENTS, CELLS, FILLING)
        self.assertGreater(many, 35)

    def test_contents_one_beyond(self):
        right = [((0, 0), (0, 0), (0, 0)), ((MOST, MOST), (8, 8), (8, 1)), ((1, 2), (0, 15), (0, 4))]
        for sought in right:
            self.assertIs(is_contents(FULL, replaced(CONTENTS, (5, 31, 0), sought)), True)
        wrong = [
            CONTENTS + ((),), CONTENTS[:5], list(CONTENTS), replaced(CONTENTS, 0, CONTENTS[0] + (ENTRY,)),
            replaced(CONTENTS, 5, list(CONTENTS[5])), replaced(CONTENTS, (5, 31), list(ENTRY)),
            replaced(CONTENTS, (5, 31), ENTRY[:2]), replaced(CONTENTS, (5, 31), ENTRY + ((),)),
            replaced(CONTENTS, (5, 31, 1), FULL[5][6][0]), replaced(CONTENTS, (5, 31, 1), "none"),
            replaced(CONTENTS, (5, 31, 2), (MOST,) * 3), replaced(CONTENTS, (5, 31, 2), (MOST,) * 5),
            replaced(CONTENTS, (5, 31, 2), (MOST, MOST, MOST, MOST + 1)), replaced(CONTENTS, (5, 31, 2), (True,) * 4),
            replaced(CONTENTS, (5, 31, 2), [MOST] * 4), replaced(CONTENTS, (5, 31, 0), ENTRY[0][:2]),
            replaced(CONTENTS, (5, 31, 0), ENTRY[0] + (0,)), replaced(CONTENTS, (5, 31, 0), list(ENTRY[0])),
        ]
        for at, parts in [(0, [(1, 0), (0, MOST + 1), (-1, 0), (True, 2), (0,), (0, 1, 1), [0, 1], 0, None]),
            (1, [(1, 0), (16, 16), (0, 16), (8, 7), (True, 1), (1, True), (0,), [0, 0], 0]),
            (2, [(8, 0), (0, 5), (16, 4), (1, 3), (0, -1), (0, True), (0,), [0, 0], 0])]:
            wrong += [replaced(CONTENTS, (5, 31, 0, at), part) for part in parts]
        for value in wrong:
            self.assertIs(is_contents(FULL, value), False)
            self.assertIs(is_contents(value=value, program=FULL), False)
            assert_raises(self, InvalidContents, "given", value, behind, FULL, value, None, None)

    def test_cells_one_beyond(self):
        for value in [CELLS, ((0,) * 16,) * 4, replaced(CELLS, (3, 15), 0)]:
            self.assertIs(is_cells(FULL, value), True)
        for value in [CELLS[:3], CELLS + ((),), list(CELLS), replaced(CELLS, 3, CELLS[3] + (0,)),
            replaced(CELLS, 3, CELLS[3][1:]), replaced(CELLS, 3, list(CELLS[3])), replaced(CELLS, (3, 15), MOST + 1),
            replaced(CELLS, (3, 15), -1), replaced(CELLS, (3, 15), True), replaced(CELLS, (3, 15), None),
            replaced(CELLS, (3, 15), "1"), replaced(CELLS, (3, 15), (1,))]:
            self.assertIs(is_cells(FULL, value), False)
            self.assertIs(is_cells(value=value, program=FULL), False)
            assert_raises(self, InvalidCells, "given", value, behind, FULL, CONTENTS, value, None)

    def test_fillings_one_beyond(self):
        for at, width in enumerate(widths_of(FULL)):
            for word in (2 ** width, -1, True, None, "0", (0,)):
                value = replaced(FILLING, at, word)
                assert_raises(self, InvalidFilling, "given", value, behind, FULL, CONTENTS, CELLS, value)
        held = 3 + 8
        empty = FILLING[:held] + (0,) * 13 + FILLING[held + 13:]
        behind(FULL, CONTENTS, CELLS, empty)
        for at in range(1, 13):
            value = replaced(empty, held + at, 1)
            assert_raises(self, InvalidFilling, "given", value, behind, FULL, CONTENTS, CELLS, value)
        for value in (FILLING[:-1], FILLING + (0,), list(FILLING)):
            assert_raises(self, InvalidFilling, "given", value, behind, FULL, CONTENTS, CELLS, value)


if __name__ == "__main__":
    unittest.main()
