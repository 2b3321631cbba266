"""Points 18 and 19: how programs and contents are written, shown and read."""

import unittest

from switchstages.errors import InvalidContents, InvalidProgram, InvalidWriting
from switchstages.programs import boxes_of, is_contents, is_program, widths_of
from switchstages.texts import read_contents, read_program, show_contents, show_program
from tests.forms import parts_of
from tests.makers import Maker
from tests.samples import JUNK, assert_raises
from tests.small import FILLED, HOPS, IN, KIND, MARK, OLD, OUT, SMALL, TTL, controlled, full_program, small_with

WORD_SIGNS = "abcdefghijklmnopqrstuvwxyz0123456789_."
RICH = """
header base kind 8 ttl 8 end
header tag mark 3 next 5 end
local old 16
local base 1
state start read base by base.kind case 1 255 more case 0 0 refuse else accept
state more go last
state none by in else refuse
state last read tag accept
state lost refuse
order tag base end
register hits 16 4
register a 1 1
action send param port 8 param way 32
set out = ( $port + 1 )
touch hits [ $way ] greatest $port into out
end
action drop
put tag
strike base
end
table ways
key base.ttl range
key out exact
action send
action drop
default send 255 4294967295
room 4
table more
key gone mask
key old prefix
action drop
default drop
room 1
control
if not held tag # ( 7 ^ ( old >> 3 ) ) then
apply more
else
if both in < 5 and either gone >= 1 or base = 0 then
set gone = ( ( 1 & 3 ) | ( tag.next << 2 ) )
touch a [ 0 ] or 1
end
end
touch hits [ ( in - 1 ) ] set tag.mark into tag.next
touch hits [ in ] add 0
touch hits [ in ] least 0
if 1 = 1 then
end
apply ways
end
""".strip()


def packed(writing):
    """A writing without any blank that is not needed."""
    found = ""
    for text, _ in parts_of(writing):
        needed = found[-1:] in WORD_SIGNS and found != "" and text[0] in WORD_SIGNS
        found += (" " if needed else "") + text
    return found


def spread(writing):
    """A writing with many blanks and new lines."""
    blanks = ["  ", "\n", " \n ", "\n\n\n", "    "]
    return " \n" + "".join(text + blanks[at % 5] for at, (text, _) in enumerate(parts_of(writing)))


def contents_of(maker, program):
    boxes = [("field",) + box if len(box) == 2 and box[0] != "local" else box for box in boxes_of(program)]
    return maker.contents(program, dict(zip(boxes, widths_of(program))))


class ProgramTextsTest(unittest.TestCase):
    def test_the_examples(self):
        rows = show_program(SMALL).split("\n")
        self.assertEqual([rows[0], rows[2], rows[3], rows[5], rows[7:10], rows[14:16], rows[19:]], [
            "header base kind 8 ttl 8 end", "local old 16",
            "state start read base by base.kind case 1 255 more else accept", "order base tag end",
            ["action send param port 8", "set out = $port", "end"], ["key base.ttl range", "action send"],
            ["control", "apply ways", "if held tag = 1 then", "touch hits [ tag.mark ] add 1 into old",
             "set tag.mark = old", "else", "set base.ttl = ( base.ttl - 1 )", "end", "end"],
        ])
        self.assertEqual(read_program(" ".join(rows)), SMALL)
        assert_raises(self, InvalidWriting, "place", 16, read_program, "header base kind")

    def test_all_rows_of_a_rich_program(self):
        program = read_program(RICH)
        self.assertIs(is_program(program), True)
        self.assertEqual(show_program(program), RICH)
        headers, own, parser, order, registers, actions, tables, control = program
        self.assertEqual(headers, (("base", (("kind", 8), ("ttl", 8))), ("tag", (("mark", 3), ("next", 5)))))
        self.assertEqual((own, order, registers),
            ((("old", 16), ("base", 1)), ("tag", "base"), (("hits", 16, 4), ("a", 1, 1))))
        self.assertEqual(parser, (
            ("start", "base", ("by", KIND, ((1, 255, "more"), (0, 0, "refuse")), "accept")),
            ("more", None, ("go", "last")), ("none", None, ("by", IN, (), "refuse")), ("last", "tag", ("accept",)),
            ("lost", None, ("refuse",)),
        ))
        port, way = ("param", "port"), ("param", "way")
        self.assertEqual(actions, (
            ("send", (("port", 8), ("way", 32)),
             (("set", OUT, ("add", port, 1)), ("touch", "hits", way, "greatest", port, OUT))),
            ("drop", (), (("put", "tag"), ("strike", "base"))),
        ))
        self.assertEqual(tables, (
            ("ways", ((TTL, "range"), (OUT, "exact")), ("send", "drop"), ("send", (255, 4294967295)), 4),
            ("more", ((("local", "gone"), "mask"), (OLD, "prefix")), ("drop",), ("drop", ()), 1),
        ))
        gone, own_base, after = ("local", "gone"), ("local", "base"), ("field", "tag", "next")
        inner = ("both", ("below", IN, 5), ("either", ("from", gone, 1), ("same", own_base, 0)))
        sets = ("set", gone, ("or", ("and", 1, 3), ("left", after, 2)))
        self.assertEqual(control, (
            ("if", ("not", ("other", ("held", "tag"), ("xor", 7, ("right", OLD, 3)))), (("table", "more"),),
             (("if", inner, (sets, ("touch", "a", 0, "or", 1, None)), ()),)),
            ("touch", "hits", ("sub", IN, 1), "set", MARK, after), ("touch", "hits", IN, "add", 0, None),
            ("touch", "hits", IN, "least", 0, None), ("if", ("same", 1, 1), (), ()), ("table", "ways"),
        ))

    def test_what_is_shown_where_there_is_little(self):
        least = ((), (), (("a", None, ("accept",)),), (), (), (("a", (), ()),), (), ())
        writing = "state a accept\norder end\naction a\nend\ncontrol\nend"
        self.assertEqual((show_program(program=least), read_program(writing=writing)), (writing, least))

    def test_blanks_and_new_lines_stand_as_one_likes(self):
        for program in (SMALL, read_program(RICH)):
            shown = show_program(program)
            for writing in (packed(shown), spread(shown), " ".join(shown.split()), "\n".join(shown.split()),
                shown + "\n "):
                self.assertEqual(read_program(writing), program)
        self.assertIn("else if both in<5 and either gone>=1 or base=0 then", packed(RICH))

    def test_a_second_block_is_shown_if_there_is_one(self):
        put, same = (("put", "tag"),), ("same", 1, 1)
        for first, second, rows in [
            ((), (), []), (put, (), ["put tag"]), ((), put, ["else", "put tag"]),
            (put, put, ["put tag", "else", "put tag"]),
        ]:
            program = controlled(("if", same, first, second))
            shown = show_program(program).split("\n")
            self.assertEqual(shown[shown.index("control"):], ["control", "if 1 = 1 then"] + rows + ["end", "end"])
            self.assertEqual(read_program("\n".join(shown)), program)
        writing = show_program(controlled(("if", same, put, ()))).replace("put tag\nend", "put tag\nelse\nend")
        self.assertEqual(read_program(writing), controlled(("if", same, put, ())))

    def test_many_programs_are_read_back(self):
        for seed in range(300):
            maker = Maker(seed)
            program = maker.program()
            shown = show_program(program)
            self.assertEqual(read_program(shown), program)
            self.assertEqual(read_program(packed(shown)), program)
            self.assertEqual(read_program(spread(shown)), program)
            self.assertNotIn("  ", shown)
            self.assertEqual(shown, "\n".join(row.strip() for row in shown.split("\n")))
            contents = contents_of(maker, program)
            written = show_contents(program, contents)
            for writing in (written, packed(written), spread(written)):
                self.assertEqual(read_contents(program, writing), contents)

    def test_the_fullest_program_is_read_back(self):
        program = full_program()
        self.assertLess(len(show_program(program)), 40000)
        self.assertEqual(read_program(show_program(program)), program)

    def test_numbers_at_their_bounds(self):
        for number in (0, 9, 10, 4294967295):
            program = controlled(("set", OUT, number))
            self.assertIn(f"set out = {number}\n", show_program(program))
            self.assertEqual(read_program(show_program(program)), program)

    def test_wrong_programs_are_told(self):
        for value in JUNK + [SMALL[:7], list(SMALL), controlled(("put", "none")), show_program(SMALL)]:
            assert_raises(self, InvalidProgram, "given", value, show_program, value)
            assert_raises(self, InvalidProgram, "given", value, show_program, program=value)
            assert_raises(self, InvalidProgram, "given", value, show_contents, value, FILLED)
            assert_raises(self, InvalidProgram, "given", value, read_contents, value, "")


class ContentsTextsTest(unittest.TestCase):
    def test_the_examples(self):
        rows = ["table ways", "entry 1 to 64 then send 3", "entry 65 to 255 then send 4", "end"]
        self.assertEqual(show_contents(SMALL, FILLED).split("\n"), rows)
        self.assertEqual(read_contents(SMALL, show_contents(SMALL, FILLED)), FILLED)
        assert_raises(self, InvalidWriting, "place", 6, read_contents, SMALL, "table way end")
        writing = "table ways entry 1 to 64 then send 300 end"
        assert_raises(self, InvalidWriting, "place", None, read_contents, SMALL, writing)

    def test_all_kinds_of_keys(self):
        keys = ((KIND, "exact"), (TTL, "prefix"), (OLD, "mask"))
        two = (HOPS, ("more", keys, ("drop", "send"), ("drop", ()), 32))
        program = small_with(tables=two)
        contents = (
            (), (((255, (192, 2), (65535, 65535)), "drop", ()), ((0, (0, 0), (0, 0)), "send", (255,)),
                 ((7, (255, 8), (32768, 32768)), "send", (0,))),
        )
        rows = [
            "table ways", "end", "table more", "entry 255 192 / 2 65535 & 65535 then drop",
            "entry 0 0 / 0 0 & 0 then send 255",
            "entry 7 255 / 8 32768 & 32768 then send 0", "end",
        ]
        self.assertIs(is_contents(program, contents), True)
        self.assertEqual(show_contents(contents=contents, program=program).split("\n"), rows)
        for writing in ("\n".join(rows), packed("\n".join(rows)), spread("\n".join(rows)), " ".join(rows)):
            self.assertEqual(read_contents(writing=writing, program=program), contents)
        self.assertIn("entry 255 192/2 65535&65535 then drop", packed("\n".join(rows)))

    def test_keys_of_32_bits_at_their_bounds(self):
        most = 4294967295
        for kind, parts, texts in [
            ("exact", [0, most], ["0", str(most)]), ("prefix", [(most, 32), (0, 0), (2147483648, 1)],
                                                    [f"{most} / 32", "0 / 0", "2147483648 / 1"]),
            ("mask", [(most, most), (0, most), (0, 0)], [f"{most} & {most}", f"0 & {most}", "0 & 0"]),
            ("range", [(0, most), (most, most), (0, 0)], [f"0 to {most}", f"{most} to {most}", "0 to 0"]),
        ]:
            table = ("ways", ((("local", "wide"), kind),) + HOPS[1][:0], *HOPS[2:])
            program = small_with(locals=(("old", 16), ("wide", 32)), tables=(table,))
            contents = (tuple(((part,), "drop", ()) for part in parts),)
            rows = ["table ways"] + [f"entry {text} then drop" for text in texts] + ["end"]
            self.assertEqual(show_contents(program, contents), "\n".join(rows))
            self.assertEqual(read_contents(program, "\n".join(rows)), contents)

    def test_no_tables_and_no_entries(self):
        none = small_with(tables=(), control=())
        self.assertEqual((show_contents(none, ()), read_contents(none, ""), read_contents(none, " \n")), ("", (), ()))
        self.assertEqual((show_contents(SMALL, ((),)), read_contents(SMALL, "table ways end")),
            ("table ways\nend", ((),)))

    def test_wrong_contents_are_told(self):
        for value in [value for value in JUNK if value != ((),)] + [(), ((), ()), list(FILLED), FILLED[0]]:
            assert_raises(self, InvalidContents, "given", value, show_contents, SMALL, value)
            assert_raises(self, InvalidContents, "given", value, show_contents, contents=value, program=SMALL)

    def test_the_first_wrong_parameter_is_told(self):
        assert_raises(self, InvalidProgram, "given", 1, show_contents, 1, 2)
        assert_raises(self, InvalidProgram, "given", 1, show_contents, contents=2, program=1)
        assert_raises(self, InvalidProgram, "given", 1, read_contents, 1, 2)
        assert_raises(self, InvalidProgram, "given", 1, read_contents, writing=2, program=1)
        assert_raises(self, InvalidWriting, "place", None, read_contents, writing=2, program=SMALL)


if __name__ == "__main__":
    unittest.main()
