"""Points 13 to 15: which values are programs, and the boxes of a packet in one."""

import unittest

from switchstages.errors import InvalidProgram
from switchstages.programs import boxes_of, first_cells, is_program, widths_of
from tests.samples import JUNK, RIGHT_NAMES, WRONG_NAMES, assert_raises
from tests.small import (
    CONTROL, DROP, FILLED, GONE, HOPS, IN, KIND, MARK, NONE, OLD, OUT, PARTS, SEND, SMALL, TTL, controlled,
    deep_condition, deep_expression, deep_ifs, full_program, small_with,
)
from tests.test_frames import wrong_parsers
from tests.test_headers import WRONG_WIDTHS, wrong_headers

PUT = ("put", "tag")
YES = ("same", 1, 1)
OPS = ("add", "sub", "and", "or", "xor", "left", "right")
CONDS = ("same", "other", "below", "from")
WAYS = ("add", "set", "greatest", "least", "or")


def deep_places(deep):
    """An expression that is this deep, without a word in it."""
    return KIND if deep == 1 else ("xor", OLD, deep_places(deep - 1))


RIGHT_EXPRESSIONS = [
    0, 1, 4294967295, KIND, MARK, IN, OUT, GONE, OLD, ("held", "base"), ("held", "tag"),
    *[(op, 1, OLD) for op in OPS], ("add", ("held", "tag"), ("sub", KIND, 3)), deep_expression(5),
    deep_expression(5, KIND),
    deep_expression(5, ("held", "tag"), -1), deep_places(5),
]
WRONG_EXPRESSIONS = [
    -1, 4294967296, True, False, None, "old", "in", 10 ** 399, (), (1,), [1], ["add", 1, 1], ("old",), ("in",),
    ("local",), ("local", "new"), ("local", "base"), ("local", ["old"]), ("local", "old", "old"),
    ("field", "base", "mark"), ("field", "tag"), ("field", "none", "mark"), ("field", "base", "kind", 1),
    ("field", "base", {}), ("tag", "mark"), ("param", "port"), ("param", "new"), ("held", "none"), ("held", "kind"),
    ("held",), ("held", "tag", "tag"), ("held", None), ("held", ("tag",)), ("held", ["tag"]), ("add", 1),
    ("add", 1, 2, 3), ("add", 1, True), ("add", None, 1), ("mul", 1, 2), ("same", 1, 2), ("not", 1),
    ("add", 1, ("same", 1, 1)), ("add", ["local", "old"], 1), ("Add", 1, 1), ("add", 1, -1), ("add", 4294967296, 1),
    deep_expression(6), deep_expression(6, KIND, -1), (None, 1, 1), (1, 1, 1), (("add",), 1, 1), ("box", 1),
    ("word", 1), ("register", "hits"), {"add": 1}, ("left", "old", 1), (OLD, OLD),
    ([], 1, 1), ({}, 1, 1), ([], "base", "kind"), ("field", [], "kind"), ("field", "base", []), ("field", {}, {}),
    ([], "old"), ("local", []), ({}, {}), ((), ()), ("field", ("base",), "kind"), (None, "base", "kind"),
    deep_places(6), deep_places(7),
]
RIGHT_CONDITIONS = [
    *[(cond, OLD, 7) for cond in CONDS], ("not", YES), ("both", YES, ("not", YES)),
    ("either", YES, ("below", KIND, TTL)), deep_condition(4),
    deep_condition(3, ("both", YES, ("same", deep_expression(5), deep_expression(5)))),
    deep_condition(4, ("from", deep_expression(5), ("held", "tag"))),
]
WRONG_CONDITIONS = [
    None, True, 1, "same", (), ("same",), ("same", 1), ("same", 1, 1, 1), ("same", 1, YES), ("same", -1, 1),
    ["same", 1, 1], ("add", 1, 1), ("not",), ("not", 1), ("not", YES, YES), ("not", None), ("both", YES),
    ("both", YES, 1), ("both", YES, YES, YES), ("either", 1, YES), ("either", YES), ("either", [YES], YES),
    ("held", "tag"), OLD, ("and", YES, YES), ("or", YES, YES), ("Same", 1, 1), deep_condition(5),
    ("same", deep_expression(6), 1), deep_condition(4, ("both", YES, YES)), ("below", 1, ("param", "port")),
    (None, YES), (["not"], YES), ("other", True, 1),
]
RIGHT_STEPS = [
    ("set", OUT, 1), ("set", GONE, OLD), ("set", OLD, IN), ("set", KIND, MARK), ("set", TTL, deep_expression(5)), PUT,
    ("put", "base"), ("strike", "tag"), ("strike", "base"), ("touch", "hits", 0, "add", 1, None),
    *[("touch", "hits", KIND, way, ("add", OLD, 1), OLD) for way in WAYS], ("touch", "hits", IN, "set", IN, MARK),
    ("touch", "hits", deep_expression(5), "or", deep_expression(5), GONE),
    ("touch", "hits", 4294967295, "least", 0, OUT),
]
WRONG_STEPS = [
    None, (), ("set",), ("set", OUT), ("set", OUT, 1, 1), ["set", OUT, 1], ("set", IN, 1), ("set", ("local", "new"), 1),
    ("set", ("field", "tag", "kind"), 1), ("set", ("held", "tag"), 1), ("set", ("param", "port"), 1), ("set", 1, 1),
    ("set", "out", 1), ("set", ["local", "out"], 1), ("set", ("local", "out", "out"), 1), ("set", OUT, None),
    ("set", OUT, True), ("set", OUT, deep_expression(6)), ("set", OUT, ("param", "port")), ("set", None, 1), ("put",),
    ("put", "none"), ("put", "kind"), ("put", "tag", "tag"), ("put", ["tag"]), ("put", None), ("put", ("held", "tag")),
    ("strike",), ("strike", "none"), ("strike", 1), ("strike", "tag", 1), ("drop",), ("Put", "tag"), ("send",),
    ("touch", "hits", 0, "add", 1), ("touch", "hits", 0, "add", 1, None, None), ("touch", "miss", 0, "add", 1, None),
    ("touch", None, 0, "add", 1, None), ("touch", ["hits"], 0, "add", 1, None), ("touch", "hits", -1, "add", 1, None),
    ("touch", "hits", 0, "sub", 1, None), ("touch", "hits", 0, "and", 1, None), ("touch", "hits", 0, None, 1, None),
    ("touch", "hits", 0, ["add"], 1, None), ("touch", "hits", 0, "add", None, None), ("touch", "hits", 0, "add", 1, IN),
    ("touch", "hits", 0, "add", 1, "old"), ("touch", "hits", 0, "add", 1, ("held", "tag")),
    ("touch", "hits", 0, "add", 1, ("local", "new")), ("touch", "hits", 0, "add", 1, ()),
    ("touch", "hits", ("param", "port"), "add", 1, None), ("touch", "hits", 0, "add", True, None), (None, "tag"),
    ("touched", "hits", 0, "add", 1, None), (None, "hits", 0, "add", 1, None), ("touch", "hits", 0, "add", 1, False),
    ("touch", "hits", 0, "greater", 1, None), ("touch", "hits", deep_expression(6), "add", 1, None),
    ("touch", "hits", 0, "add", deep_expression(6), None), ("set", ([], "base", "kind"), 1),
    ("set", ("field", [], "kind"), 1), ("set", ("field", "base", []), 1), ("set", ([], "old"), 1),
    ("set", ("local", []), 1), ("set", (None, "old"), 1), ("touch", "hits", 0, "add", 1, ("field", {}, "kind")),
    ([], OUT, 1), ("put", []), ("strike", ("tag",)), ({}, "tag"),
]


class Telling(unittest.TestCase):
    def right(self, *programs):
        for program in programs:
            self.assertIs(is_program(program), True, program)

    def wrong(self, *programs):
        for program in programs:
            self.assertIs(is_program(program), False, program)


class ProgramsTest(Telling):
    def test_the_example(self):
        told = [is_program(SMALL), is_program(SMALL[:7]), boxes_of(SMALL)[3:7], widths_of(SMALL)]
        names = (("local", "old"), ("base",), ("base", "kind"), ("base", "ttl"))
        self.assertEqual(told, [True, False, names, (8, 8, 1, 16, 1, 8, 8, 1, 8)])

    def test_the_least_and_the_fullest_program(self):
        least = ((), (), (("a", None, ("accept",)),), (), (), (("a", (), ()),), (), ())
        self.right(least, full_program())
        self.assertEqual(boxes_of(least), (IN, OUT, GONE))
        self.assertEqual([widths_of(least), first_cells(least)], [(8, 8, 1), ()])
        self.assertEqual(len(boxes_of(full_program())), 3 + 8 + 6 * 13)
        self.assertEqual(first_cells(full_program()), ((0,) * 16,) * 4)

    def test_a_program_is_a_tuple_of_eight(self):
        self.wrong(*JUNK, (), SMALL[:7], SMALL[1:], SMALL + ((),), SMALL + (None,), list(SMALL),
            dict(zip(PARTS, SMALL)))

    def test_each_part_is_looked_at(self):
        for part in PARTS:
            for value in JUNK + [False, list(SMALL[PARTS.index(part)]), (None,), ((),), ("a",), (1,), {}]:
                self.wrong(small_with(**{part: value}))
        for value in wrong_headers():
            self.wrong(small_with(headers=value))
        for order in [(), ("base",), ("tag", "tag"), ("base", "none"), ("base", "tag", "tag"), ["base", "tag"]]:
            self.wrong(small_with(order=order))
        self.right(small_with(order=("tag", "base")))

    def test_the_parser_is_one_for_the_headers(self):
        heads = (("base", (("kind", 8),)), ("tag", (("mark", 3), ("next", 5))))
        for value in wrong_parsers():
            self.wrong((heads, (), value, ("base", "tag"), (), (DROP,), (), ()))
        twice = (("a", "base", ("go", "b")), ("b", "base", ("accept",)))
        self.wrong(small_with(parser=twice), small_with(parser=(("a", None, ("by", OLD, (), "accept")),)))
        self.right(small_with(parser=(("a", None, ("by", IN, (), "accept")),)))

    def test_locals(self):
        eight = tuple((f"l{at}", at + 1) for at in range(8))
        bare = {"control": (), "actions": (DROP,), "tables": ()}
        self.right(*[small_with(locals=value, **bare) for value in [(), eight, (("a", 32),), (("base", 1),)]])
        self.wrong(small_with(locals=eight + (("l8", 1),), **bare), small_with(locals=()))
        self.wrong(*[small_with(locals=((name, 8),), **bare) for name in WRONG_NAMES])
        self.right(*[small_with(locals=((name, 8),), **bare) for name in RIGHT_NAMES])
        self.wrong(*[small_with(locals=(("a", width),), **bare) for width in WRONG_WIDTHS])
        pairs = [(("a", 1), ("a", 2)), ("a", 1), (("a",),), (("a", 1, 1),), (["a", 1],), [("a", 1)], (("a", 1), None)]
        self.wrong(*[small_with(locals=value, **bare) for value in pairs])

    def test_registers(self):
        bare = {"control": (), "actions": (DROP,)}
        four = tuple((f"r{at}", 32, 16) for at in range(4))
        right = [(), four, (("a", 1, 1),), (("base", 32, 16), ("tag", 1, 16))]
        self.right(*[small_with(registers=value, **bare, tables=()) for value in right])
        self.wrong(small_with(registers=four + (("r4", 32, 16),), **bare, tables=()), small_with(registers=()))
        wrong = [(("a", 1),), (("a", 1, 1, 1),), (["a", 1, 1],), (("a", 1, 1), ("a", 2, 2)), ("a", 1, 1), [("a", 1, 1)]]
        wrong += [(("a", width, 1),) for width in WRONG_WIDTHS] + [((name, 1, 1),) for name in WRONG_NAMES]
        wrong += [(("a", 1, many),) for many in (0, 17, -1, True, None, "1", (1,), 10 ** 399)]
        self.wrong(*[small_with(registers=value, **bare, tables=()) for value in wrong])

    def test_names_of_two_sorts_may_be_alike(self):
        headers = (("a", (("a", 8),)), ("b", (("a", 8), ("b", 8))))
        self.right((
            headers, (("a", 1), ("b", 2)), (("a", "a", ("go", "b")), ("b", "b", ("accept",))), ("b", "a"),
            (("a", 1, 1), ("b", 1, 1)), (("a", (("a", 1),), (("set", ("local", "a"), ("param", "a")),)), ("b", (), ())),
            (("a", ((("field", "a", "a"), "exact"),), ("a", "b"), ("b", ()), 1),), (("table", "a"), ("put", "a")),
        ))

    def test_expressions(self):
        for value in RIGHT_EXPRESSIONS:
            self.right(controlled(("set", OUT, value)), controlled(("touch", "hits", value, "add", 1, None)))
            self.right(controlled(("touch", "hits", 1, "add", value, OLD)),
                controlled(("if", ("same", value, 1), (), ())))
        for value in WRONG_EXPRESSIONS + JUNK:
            self.wrong(controlled(("set", OUT, value)), controlled(("touch", "hits", value, "add", 1, None)))
            self.wrong(controlled(("touch", "hits", 1, "add", value, OLD)),
                controlled(("if", ("same", value, 1), (), ())))
            self.wrong(controlled(("set", OUT, ("add", 1, value))), controlled(("if", ("from", 1, value), (), ())))

    def test_conditions(self):
        self.right(*[controlled(("if", value, (), ())) for value in RIGHT_CONDITIONS])
        self.wrong(*[controlled(("if", value, (), ())) for value in WRONG_CONDITIONS + JUNK])
        self.wrong(*[controlled(("if", ("not", value), (), ())) for value in WRONG_CONDITIONS + JUNK])
        self.wrong(*[controlled(("if", ("both", YES, value), (), ())) for value in WRONG_CONDITIONS])
        self.wrong(*[controlled(("if", ("either", value, YES), (), ())) for value in WRONG_CONDITIONS])

    def test_steps(self):
        for value in RIGHT_STEPS:
            self.right(controlled(value), small_with(actions=(("send", (), (value,)), DROP)))
            self.right(controlled(("if", YES, (), (value,))), controlled(PUT, value, PUT))
        for value in WRONG_STEPS + JUNK:
            self.wrong(controlled(value), small_with(actions=(("send", (), (value,)), DROP)))
            self.wrong(controlled(("if", YES, (), (value,))), controlled(PUT, value, PUT))

    def test_params_stand_in_their_action_alone(self):
        uses = ("set", OUT, ("add", 1, ("param", "port")))
        other = ("other", (("gate", 8),), ())
        bare = {"control": (), "tables": ()}
        self.right(small_with(actions=(("send", (("port", 8),), (uses,)),), **bare))
        self.wrong(small_with(actions=(("send", (), (uses,)),), **bare), controlled(uses))
        self.wrong(small_with(actions=(SEND, ("next", (), (uses,))), **bare),
            controlled(("if", ("same", ("param", "port"), 1), (), ())))
        self.wrong(small_with(actions=(SEND, ("next", (("gate", 8),), (uses,)), other), **bare))
        self.wrong(small_with(actions=(("send", (("port", 8),), (("set", ("param", "port"), 1),)),), **bare))

    def test_actions(self):
        bare = {"control": (), "tables": ()}

        def made(*values):
            return [small_with(actions=value, **bare) for value in values]

        twelve = tuple((f"a{at}", (), ()) for at in range(12))
        four = tuple((f"p{at}", 32) for at in range(4))
        self.right(*made((("a", four, (PUT,) * 8),), twelve, (("a", (), ()), ("b", (("a", 1),), ()))))
        self.right(*made(*[((name, ((name, 8),), ()),) for name in RIGHT_NAMES]))
        self.wrong(*made((), twelve + (("z", (), ()),), (("a", four + (("p4", 1),), ()),), (("a", (), (PUT,) * 9),)))
        self.wrong(*made((("a", (), ()), ("a", (("p", 1),), ())), (("a", ()),), (("a", (), (), ()),), (["a", (), ()],)))
        self.wrong(*made((("a", [], ()),), (("a", (), []),), (("a", None, ()),), (("a", (), None),), ("a", (), ())))
        self.wrong(*made((("a", (("p", 1), ("p", 2)), ()),), (("a", (("p",),), ()),), (("a", ("p", 1), ()),)))
        self.wrong(*made(*[((name, (), ()),) for name in WRONG_NAMES],
            *[(("a", ((name, 1),), ()),) for name in WRONG_NAMES]))
        self.wrong(*made(*[(("a", (("p", width),), ()),) for width in WRONG_WIDTHS]))
        self.wrong(*made((("a", (), (("table", "ways"),)),), (("a", (), (("if", YES, (), ()),)),)))


class TablesTest(Telling):
    def changed(self, at, *values):
        """Programs whose table has another element there."""
        return [small_with(tables=(HOPS[:at] + (value,) + HOPS[at + 1:],)) for value in values]

    def test_tables(self):
        def made(*values):
            return [small_with(tables=value, control=()) for value in values]

        six = tuple((f"t{at}",) + HOPS[1:] for at in range(6))
        self.right(*made((), six, (HOPS,)))
        self.wrong(*made(six + (HOPS,), (HOPS, HOPS), (HOPS[:4],), (HOPS + (1,),), (list(HOPS),), HOPS, [HOPS]))
        self.wrong(*made(*[((name,) + HOPS[1:],) for name in WRONG_NAMES]))
        self.right(*made(*[((name,) + HOPS[1:],) for name in RIGHT_NAMES]))

    def test_keys(self):
        kinds = ("exact", "prefix", "mask", "range")
        self.right(*self.changed(1, *[((TTL, kind),) for kind in kinds],
            ((IN, "mask"), (OUT, "exact"), (GONE, "range"))))
        self.right(*self.changed(1, ((OLD, "exact"), (OLD, "mask"), (OLD, "range")),
            ((KIND, "exact"), (KIND, "exact"))))
        wrong = [
            (), ((TTL, "exact"),) * 4, [(TTL, "exact")], (TTL, "exact"), ((TTL,),), ((TTL, "exact", 8),),
            ([TTL, "exact"],), ((TTL, None),), ((TTL, "Exact"),), ((TTL, ["exact"]),), ((TTL, "any"),),
            (("exact", TTL),), ((1, "exact"),), ((("param", "port"), "exact"),), ((("held", "tag"), "exact"),),
            ((("local", "new"), "exact"),), (None,), ((("field", "tag", "kind"), "exact"),),
            ((("add", 1, 1), "exact"),), ((["local", "in"], "exact"),), None, ((TTL, "exact"), None),
            ((TTL, "exact"), (TTL, "exact", 1)), ((([], "base", "ttl"), "exact"),), ((("field", [], "ttl"), "exact"),),
            ((("field", "base", []), "exact"),), ((("local", []), "exact"),), ((([], "in"), "exact"),),
        ]
        self.wrong(*self.changed(1, *wrong, *JUNK))

    def test_keys_have_up_to_48_bits_together(self):
        def keyed(*widths):
            own = tuple((f"l{at}", width) for at, width in enumerate(widths))
            table = ("ways", tuple((("local", name), "exact") for name, _ in own), *HOPS[2:])
            return small_with(locals=own, tables=(table,), control=())

        self.right(keyed(32), keyed(16, 16, 16), keyed(32, 16), keyed(32, 15, 1), keyed(1, 1, 1))
        self.wrong(keyed(32, 17), keyed(17, 16, 16), keyed(32, 16, 1), keyed(16, 1, 32), keyed(32, 32, 32),
            keyed(1, 1, 1, 1))

    def test_choices(self):
        actions = tuple((f"a{at}", (), ()) for at in range(8)) + (DROP,)
        six = ("drop", "a0", "a1", "a2", "a3", "a4")

        def made(*values):
            return [small_with(tables=(HOPS[:2] + (value,) + HOPS[3:],), actions=actions) for value in values]

        self.right(*made(six, ("drop",), six[::-1]))
        self.wrong(*made((), six + ("a5",), ("drop", "drop"), ("drop", "none"), ["drop"], "drop", ("drop", None),
            (DROP,)))
        self.wrong(*made(("drop", ("a0",)), ("drop", True), ("drop", ["a0"]), ("a0", "a1"), ("a0",), None, {"drop": 1}))

    def test_defaults(self):
        self.right(*self.changed(3, ("drop", ()), ("send", (0,)), ("send", (255,))))
        self.wrong(*self.changed(
            3, (), ("drop",), ("drop", (), ()), ["drop", ()], ("drop", (1,)), ("drop", []), ("drop", None),
            ("send", ()), ("send", (256,)), ("send", (-1,)), ("send", (True,)), ("send", [1]), ("send", (1, 1)),
            ("send", 1), ("none", ()), (None, ()), (["drop"], ()), ("send", (None,)), ("send", ("1",)), "drop", None,
        ))
        self.wrong(small_with(actions=(SEND, DROP, ("more", (), ())), tables=(HOPS[:3] + (("more", ()), 4),)))

    def test_rooms(self):
        self.right(*self.changed(4, 1, 2, 31, 32))
        self.wrong(*self.changed(4, 0, 33, -1, True, False, None, "4", (4,), [4], 10 ** 399))


class ControlTest(Telling):
    def test_blocks(self):
        self.right(controlled(), controlled(*(PUT,) * 12), controlled(("if", YES, (PUT,) * 12, (PUT,) * 12)))
        self.wrong(controlled(*(PUT,) * 13), controlled(("if", YES, (PUT,) * 13, ())),
            controlled(("if", YES, (), (PUT,) * 13)))
        for value in [None, [], [PUT], PUT, 1, "put", (None,), ((),), (("put",),), {}]:
            self.wrong(small_with(control=value), controlled(("if", YES, value, ())),
                controlled(("if", YES, (), value)))
        self.wrong(controlled(("if", YES, ())), controlled(("if", YES, (), (), ())), controlled(["if", YES, (), ()]))
        self.wrong(controlled(("if",)), controlled(("If", YES, (), ())), controlled((None, YES, (), ())))

    def test_up_to_40_items_in_all(self):
        whole = ("if", YES, (PUT,) * 12, (PUT,) * 12)
        self.right(controlled(whole, ("if", YES, (PUT,) * 12, ()), ("put", "tag"), PUT))
        self.wrong(controlled(whole, ("if", YES, (PUT,) * 12, ()), PUT, PUT, PUT))
        self.right(controlled(*(("if", YES, (PUT,), (PUT,)),) * 12))
        inner = ("if", YES, (PUT,) * 12, (PUT,) * 11)
        self.right(controlled(("if", YES, (inner,), (PUT,) * 12), PUT, PUT, PUT))
        self.wrong(controlled(("if", YES, (inner,), (PUT,) * 12), PUT, PUT, PUT, PUT))

    def test_ifs_stand_up_to_4_deep(self):
        for branch in (0, 1):
            self.right(*[small_with(control=deep_ifs(deep, branch=branch)) for deep in range(5)])
            self.wrong(*[small_with(control=deep_ifs(deep, branch=branch)) for deep in (5, 6, 20)])

    def test_the_same_blocks_again_and_again_are_soon_refused(self):
        block = (PUT,)
        for _ in range(12):
            block = (("if", YES, block, block),) * 12
        self.wrong(small_with(control=block))

    def test_each_table_at_most_once(self):
        ways = ("table", "ways")
        self.right(controlled(ways), controlled(PUT, ("if", YES, (), (ways,))), controlled(PUT))
        self.wrong(controlled(ways, ways), controlled(ways, ("if", YES, (ways,), ())),
            controlled(("if", YES, (ways,), (ways,))))
        self.wrong(controlled(("if", YES, (ways,), ()), ("if", YES, (ways,), ())))
        wrong = [("table",), ("table", "none"), ("table", None), ("table", ["ways"]), ["table", "ways"],
            ("table", "send")]
        self.wrong(*[controlled(value) for value in wrong + [("table", "ways", 1), ("Table", "ways"),
            ("apply", "ways")]])
        two = (HOPS, ("more",) + HOPS[1:])
        self.right(small_with(tables=two, control=(ways, ("table", "more"))))


class BoxesTest(unittest.TestCase):
    def test_boxes_in_order(self):
        self.assertEqual(boxes_of(program=SMALL), (
            ("local", "in"), ("local", "out"), ("local", "gone"), ("local", "old"), ("base",), ("base", "kind"),
            ("base", "ttl"), ("tag",), ("tag", "mark"),
        ))
        self.assertEqual(widths_of(program=SMALL), (8, 8, 1, 16, 1, 8, 8, 1, 8))

    def test_first_cells(self):
        bare = {"control": CONTROL[:1]}
        self.assertEqual(first_cells(program=SMALL), NONE)
        self.assertEqual(first_cells(small_with(registers=(("a", 1, 1), ("b", 9, 3)), **bare)), ((0,), (0, 0, 0)))
        self.assertEqual(first_cells(small_with(registers=(), **bare)), ())

    def test_wrong_programs_are_told(self):
        for value in JUNK + [SMALL[:7], list(SMALL), controlled(("put", "none")), small_with(actions=()), FILLED]:
            for call in (boxes_of, widths_of, first_cells):
                assert_raises(self, InvalidProgram, "given", value, call, value)
                assert_raises(self, InvalidProgram, "given", value, call, program=value)


if __name__ == "__main__":
    unittest.main()
