"""Points 18 and 19: where writings are refused, on many writings against the forms told as rules."""

import unittest

from switchstages.errors import InvalidWriting
from switchstages.programs import is_contents, is_program
from switchstages.texts import read_contents, read_program, show_contents, show_program
from tests.forms import PROGRAM_RULES, contents_rules, parts_of, refused_at
from tests.makers import Maker
from tests.samples import KEPT_WORDS, assert_raises
from tests.small import (
    FILLED, HOPS, KIND, OLD, SMALL, TTL, controlled, deep_condition, deep_expression, deep_ifs, full_program,
    small_with,
)
from tests.test_texts import RICH, contents_of, packed, spread

BEGUN = "state a accept order end action a "
NO_TEXTS = [None, True, False, 0, 1, b"", b"order", (), [], {}, ("order",), ["order"], object(), len]


def told(read, *args):
    """What a reading comes to: ("read", what it is) or ("refused", the place)."""
    try:
        return ("read", read(*args))
    except InvalidWriting as caught:
        return ("refused", caught.place)


def spoilt(writing, maker):
    """Writings of which one part is another one, left out, put in or exchanged."""
    parts = [text for text, _ in parts_of(writing)]
    others = KEPT_WORDS + ["a", "base.kind", "0", "1", "300", "4294967296", "007", "(", ")", "=", "#", "<", ">=", "+",
        "-", "&",
                           "|", "^", "<<", ">>", "[", "]", "$", ">", "/", "A", ".", "a.", "\t", "@", "a" * 13]
    for at in range(len(parts)):
        yield parts[:at] + parts[at + 1:]
        yield parts[:at] + parts[at:at + 1] + parts[at:]
        yield parts[:at] + parts[at:at + 2][::-1] + parts[at + 2:]
        for other in maker.chance.sample(others, 4):
            yield parts[:at] + [other] + parts[at + 1:]
            yield parts[:at] + [other] + parts[at:]


class WritingsTest(unittest.TestCase):
    def refused(self, writing, place):
        assert_raises(self, InvalidWriting, "place", place, read_program, writing)
        if place is not None:
            self.assertEqual(refused_at(PROGRAM_RULES, writing), place)
        else:
            self.assertIsNone(refused_at(PROGRAM_RULES, writing))

    def against_forms(self, writing):
        """That a writing is refused where the forms refuse it, or read as what it tells."""
        place = refused_at(PROGRAM_RULES, writing)
        kind, found = told(read_program, writing)
        if place is not None:
            self.assertEqual((kind, found), ("refused", place), writing)
        elif kind == "refused":
            self.assertIsNone(found, writing)
        else:
            self.assertIs(is_program(found), True)
            shown = " ".join(text for text, _ in parts_of(show_program(found)))
            self.assertEqual(shown, " ".join(text for text, _ in parts_of(writing)).replace("else end", "end"))
        return kind

    def test_no_texts(self):
        for value in NO_TEXTS:
            assert_raises(self, InvalidWriting, "place", None, read_program, value)
            assert_raises(self, InvalidWriting, "place", None, read_program, writing=value)
            assert_raises(self, InvalidWriting, "place", None, read_contents, SMALL, value)

    def test_writings_that_end_too_early(self):
        for writing in ["", " ", "\n\n", "header", "header a", "header a b", "header a b 8 ", "order", "order end",
            "state a by in",
                        BEGUN, BEGUN + "end control", BEGUN + "end control set out = (", BEGUN + "set out"]:
            self.refused(writing, len(writing))

    def test_words_that_do_not_go_on(self):
        for ahead, behind in [
            ("", "control"), ("", "Header a end"), ("", "header_ a"), ("", "headers"), ("", "a"), ("", "0"), ("", "="),
            ("", "."), ("", "end"), ("header ", "1 8 end"), ("header ", "header"), ("header ", "a.b 8"),
            ("header ", "abcdefghijklm 8"), ("header ", "_a"), ("header ", "in"), ("header a ", "8"),
            ("header a b ", "c"), ("header a b ", "08"), ("header a b ", "4294967296"), ("header a b ", "-1"),
            ("header a b ", "10000000000"), ("header a b 8 ", "9"), ("header a b ", "8c"), ("header a b ", "1.5"),
            ("header a end ", "state2"), ("local a 1 ", "header b end"), ("local ", "out 1"), ("local a ", "0x1"),
            ("state a ", "b"), ("state a ", "read2"), ("state a read b ", "read c"), ("state a read ", "accept"),
            ("state a go ", "accept"), ("state a by ", "accept"), ("state a by ", "$b"), ("state a by ", "a.b.c"),
            ("state a by ", "a."), ("state a by ", ".b"), ("state a by ", "in.b"), ("state a by ", "a.in"),
            ("state a by ", "1"), ("state a by in ", "accept"), ("state a by in case 1 ", "accept"),
            ("state a by in case 1 1 ", "go"), ("state a by in else ", "else"), ("state a by a ", ". b"),
            ("state a accept ", "control"), ("order ", "in end"), ("order a ", "1"), ("order end ", "order end"),
            ("order end ", "local a 1"), ("order end register a 1 ", "register"), ("order end register a 1 1 ", "2"),
            ("order end action a ", "local"), ("order end action a ", "apply b"), ("order end action a ", "if"),
            ("order end action a put b ", "param c 1"), ("order end action a param b ", "end"),
            ("order end table a ", "action_"), ("order end table a key in ", "any"),
            ("order end table a key in ", "in"), ("order end table a key ", "held b"),
            ("order end table a key ", "7 exact"), ("order end table a default b 1 ", "c"),
            ("order end table a default b 1 ", "01"), ("order end table a default b ", "end"),
            ("order end table a default b room 1 ", "1"), ("order end table a action b ", "key in exact"),
            ("order end table a default b room ", "table"), ("order end control ", "else"),
            ("order end control ", "param a 1"), ("order end control ", "action a end"),
            ("order end control end ", "end"), ("order end control end ", "?"), ("order end control end ", "a"),
        ]:
            self.refused(ahead + behind, len(ahead))

    def test_expressions_that_do_not_go_on(self):
        ahead = BEGUN + "end control set out = "
        for begun, behind in [
            ("", ")"), ("", "]"), ("(", ")"), ("( 1 ", ")"), ("( 1 ", "1 )"), ("( 1 + ", ")"), ("( 1 + 2 ", "+ 3 )"),
            ("1 ", "+ 1"), ("", "- 1"), ("( 1 ", "= 2 )"), ("( 1 ", "< < 2 )"), ("( 1 <<", "= 2 )"),
            ("( 1 ", "> > 2 )"), ("( 1 ", ">= 2 )"), ("( 1 ", "add 2 )"), ("$ ", "$a"), ("$", "1"), ("$", "in"),
            ("held ", "in"), ("held ", "$a"), ("held ", "a.b"), ("", "not 1 = 1"), ("", "[ 1 ]"), ("", "accept"),
            ("1 ", "2"), ("a ", ".b"), ("a ", "b"), ("", "a."), ("", "kept.header"), ("( 1 ", "</ 1 )"),
            ("( 1 ", ">/ 1 )"), ("( ( 1 + 2 ) ", ") "), ("", "07"), ("", "4294967296"), ("( 1 + ", "00 )"),
            ("( ( ( ( ( ( ( 1 ", "] "),
        ]:
            self.refused(ahead + begun + behind, len(ahead + begun))

    def test_conditions_and_items_that_do_not_go_on(self):
        ahead = BEGUN + "end control "
        for begun, behind in [
            ("if ", "then"), ("if 1 ", "then"), ("if 1 = ", "then"), ("if 1 = 1 ", "end"), ("if 1 = 1 ", "and 1 = 1"),
            ("if 1 ", "> 1 then"), ("if 1 =", "> 1 then"), ("if 1 = ", "= 1 then"), ("if 1 < ", "= 1 then"),
            ("if 1 >= ", ">= 1"), ("if 1 < ", "< 1"), ("if 1 ", "<< 1"), ("if 1 ", ">> 1"), ("if 1 ", "+ 1"),
            ("if not ", "then"), ("if both 1 = 1 ", "or 1 = 1"), ("if either 1 = 1 ", "and 1 = 1"),
            ("if both 1 = 1 and ", "then"), ("if both 1 = 1 and 1 = 1 ", "and 1 = 1"), ("if ( 1 ", "= 1 )"),
            ("if 1 = 1 then ", "then"), ("if 1 # ", "# 1"), ("if 1 = 1 then else ", "else"),
            ("if 1 = 1 then end ", "else"), ("apply ", "in"), ("apply a ", "1"), ("put ", "a.b"), ("put ", "$a"),
            ("strike a ", "b"), ("set ", "1 = 1"), ("set ", "$a = 1"), ("set ", "held a = 1"), ("set a ", ">= 1"),
            ("set a ", "1"), ("set a = ", "= 1"), ("touch ", "in"), ("touch a ", "1"), ("touch a [ 1 ", "add"),
            ("touch a [ 1 ] ", "sub 1"), ("touch a [ 1 ] ", "and 1"), ("touch a [ 1 ] ", "1"),
            ("touch a [ 1 ] add 1 into ", "1"), ("touch a [ 1 ] or ", "or 1"), ("touch a [ ", "]"),
            ("touch a ", "( 1 )"), ("touch a [ 1 ] set 1 ", "to b"), ("touch a [ 1 ] greatest 1 into b ", "into c"),
            ("", "drop"), ("", "$a"), ("", "("), ("put a ", "="),
        ]:
            self.refused(ahead + begun + behind, len(ahead + begun))

    def test_signs_that_begin_no_word_and_no_mark(self):
        for sign in "ABZ\t\r\x0b\x0c\x00!\"%'*,/:;?@\\`{}~>\u00e9\u0663\uff41\u00a0\u2028\U0001f600":
            for ahead in ("", " ", "header ", "header a b ", BEGUN, BEGUN + "end control set out =",
                "order end control end "):
                self.refused(ahead + sign, len(ahead))
                self.refused(ahead + sign + " a", len(ahead))
            self.refused("header a" + sign + " b 8 end", 8)

    def test_marks_are_as_long_as_they_can_be(self):
        ahead = BEGUN + "end control set out = ( 1 "
        for marks, at in [
            ("<", 0), ("< <", 0), ("<<<", 2), ("<<<<", 2), (">", 0), ("> >", 0), (">>>", 2), (">>>>", 2), (">>=", 2),
            (">=", 0), ("<<=", 2), ("<=", 0), (">=>", 0), ("<>", 0), (">>>=", 2), ("++", 1), ("+ -", 2), ("&&", 1),
            ("<< >>", 3),
        ]:
            self.refused(ahead + marks + " 2 )", len(ahead) + at)
        ahead = BEGUN + "end control if 1 "
        for marks, at in [
            ("<<", 0), ("< <", 2), ("<=", 1), ("< =", 2), (">", 0), ("> =", 0), (">>", 0), (">>=", 0), (">==", 2),
            (">=>", 2), (">=>=", 2), ("<>=", 1), ("<>", 1), ("=<", 1), ("=>=", 1), ("=>", 1), ("==", 1), ("##", 1),
            ("<<=", 0), ("><", 0),
        ]:
            self.refused(ahead + marks + " 2 then end end", len(ahead) + at)
        program = controlled(("if", ("below", ("left", 1, 2), ("right", 3, 4)), (("put", "tag"),), ()),
                             ("if", ("from", ("right", 1, 2), ("left", 3, 4)), (("put", "tag"),), ()))
        self.assertIn("if(1<<2)<(3>>4)then", packed(show_program(program)))
        self.assertIn("if(1>>2)>=(3<<4)then", packed(show_program(program)))
        self.assertEqual(read_program(packed(show_program(program))), program)

    def test_no_programs_that_the_forms_tell(self):
        for old, new in [
            ("header base kind 8 ttl 8 end", "header base end"), ("kind 8 ttl 8", "kind 8 ttl 7"),
            ("kind 8 ttl 8", "kind 0 ttl 8"), ("kind 8 ttl 8", "kind 8 kind 8"), ("header base", "header tag"),
            ("local old 16", "local old 33"), ("local old 16", ""), ("local old 16", "local old 16 local old 16"),
            ("local old 16", "local old 4294967295"), ("state start read base", "state start read none"),
            ("state start", "state more"), ("1 255 more", "256 256 more"), ("1 255 more", "2 1 more"),
            ("1 255 more", "1 255 none"), ("by base.kind", "by out"), ("by base.kind", "by base.none"),
            ("more else", "start else"), ("order base tag", "order base"), ("order base tag", "order base base"),
            ("order base tag", "order"), ("hits 16 4", "hits 0 4"), ("hits 16 4", "hits 16 17"),
            ("register hits 16 4", ""), ("action drop", "action send"), ("param port 8", "param port 0"),
            ("param port 8", "param port 8 param port 8"), ("param port 8", ""), ("set gone = 1", "set in = 1"),
            ("set gone = 1", "set gone = $port"), ("set gone = 1", "put none"),
            ("set gone = 1", "touch hits [ 0 ] add 1 into in"), ("set gone = 1", "set new = 1"),
            ("key base.ttl range", ""), ("key base.ttl range", "key base.none range"),
            ("action drop\ndefault", "default"), ("default drop", "default drop 1"), ("default drop", "default send"),
            ("default drop", "default send 256"), ("default drop", "default none"), ("room 4", "room 0"),
            ("room 4", "room 33"), ("apply ways", "apply none"), ("apply ways", "apply ways apply ways"),
            ("held tag", "held none"), ("hits [", "none ["),
            ("state start", " ".join(f"state s{at} accept" for at in range(7)) + " state start"),
        ]:
            self.assertIn(old, show_program(SMALL))
            self.refused(show_program(SMALL).replace(old, new, 1), None)
        self.refused("order end control end", None)
        self.refused("state a accept order end control end", None)

    def test_what_is_too_deep_or_too_long_is_no_program(self):
        shown = show_program(small_with(control=()))

        def controlling(text):
            return shown[:-len("end")] + text + "\nend"

        self.assertEqual(read_program(controlling("put tag")), controlled(("put", "tag")))
        five = "( ( ( ( 1 + 2 ) + 2 ) + 2 ) + 2 )"
        self.assertEqual(read_program(controlling("set out = " + five)),
            controlled(("set", ("local", "out"), deep_expression(5))))
        self.refused(controlling(f"set out = ( {five} + 2 )"), None)
        four = "not not not 1 = 1"
        self.assertEqual(read_program(controlling(f"if {four} then end")),
            controlled(("if", deep_condition(4), (), ())))
        self.refused(controlling(f"if not {four} then end"), None)
        for deep in (4, 5):
            text = "if 1 = 1 then " * deep + "put tag" + " end" * deep
            if deep == 4:
                self.assertEqual(read_program(controlling(text)), small_with(control=deep_ifs(4)))
            else:
                self.refused(controlling(text), None)
        self.assertEqual(len(read_program(controlling("put tag " * 12))[7]), 12)
        self.refused(controlling("put tag " * 13), None)
        ifs = "if 1 = 1 then put tag else put tag put tag end " * 10
        self.assertEqual(len(read_program(controlling(ifs))[7]), 10)
        self.refused(controlling(ifs + "put tag"), None)

    def test_thousands_of_things_within_one_another(self):
        ahead = BEGUN + "end control "
        for begun, behind, many in [
            ("( ", " + 1 )", 4000), ("(", "+1)", 8000),
        ]:
            writing = ahead + "set out = " + begun * many + "1" + behind * many + " end"
            self.assertEqual(told(read_program, writing), ("refused", None))
            self.assertEqual(told(read_program, writing + " ]"), ("refused", len(writing) + 1))
            self.assertEqual(told(read_program, writing[:-5]), ("refused", len(writing) - 5))
            self.assertEqual(told(read_program, writing[:-6]), ("refused", len(writing) - 6))
        for begun, behind, many in [("not ", "", 9000), ("both 1 = 1 and ", "", 2500), ("either ", " or 1 = 1", 2300)]:
            writing = ahead + "if " + begun * many + "1 = 1" + behind * many + " then end end"
            self.assertEqual(told(read_program, writing), ("refused", None))
            self.assertEqual(told(read_program, writing.replace("then", "also")), ("refused", len(writing) - 12))
        for begun, behind, many in [("if 1 = 1 then ", " end", 2100),
            ("if 1=1 then else ", " end", 1900)]:
            writing = ahead + begun * many + behind * many + " end"
            self.assertEqual(told(read_program, writing), ("refused", None))
            self.assertEqual(told(read_program, writing + " end"), ("refused", len(writing) + 1))
            self.assertEqual(told(read_program, writing[:-4]), ("refused", len(writing) - 4))
        writing = "order end control " + "put a " * 6500
        self.assertEqual(told(read_program, writing), ("refused", len(writing)))
        self.assertEqual(told(read_program, "header a b " + "9" * 39000), ("refused", 11))
        self.assertEqual(told(read_program, "a" * 40000), ("refused", 0))
        self.assertEqual(told(read_program, " " * 40000), ("refused", 40000))

    def test_writings_cut_at_each_place(self):
        for writing in (show_program(SMALL), RICH, packed(RICH), spread(show_program(SMALL))):
            for cut in range(len(writing) + 1):
                self.against_forms(writing[:cut])

    def test_writings_with_one_part_spoilt(self):
        kinds = []
        for seed, writing in enumerate((show_program(SMALL), RICH)):
            for parts in spoilt(writing, Maker(seed)):
                kinds.append(self.against_forms(" ".join(parts)))
                kinds.append(self.against_forms(packed(" ".join(parts))))
        self.assertGreater(kinds.count("refused"), 3000)
        self.assertGreater(kinds.count("read"), 50)

    def test_one_sign_put_in_left_out_or_exchanged(self):
        writing = packed(RICH)
        for at in range(0, len(writing), 3):
            maker = Maker(at)
            self.against_forms(writing[:at] + writing[at + 1:])
            for _ in range(4):
                sign = maker.pick("ab_.019<>=+-&|^()[]$#/A \n")
                self.against_forms(writing[:at] + sign + writing[at:])
                self.against_forms(writing[:at] + sign + writing[at + 1:])


class ContentsWritingsTest(unittest.TestCase):
    def refused(self, program, writing, place):
        assert_raises(self, InvalidWriting, "place", place, read_contents, program, writing)

    def against_forms(self, program, writing):
        tables = [(table[0], [kind for _, kind in table[1]]) for table in program[6]]
        place = refused_at(contents_rules(tables), writing)
        kind, found = told(read_contents, program, writing)
        if place is not None:
            self.assertEqual((kind, found), ("refused", place), writing)
        elif kind == "refused":
            self.assertIsNone(found, writing)
        else:
            self.assertIs(is_contents(program, found), True)
            shown = [text for text, _ in parts_of(show_contents(program, found))]
            self.assertEqual(shown, [text for text, _ in parts_of(writing)])
        return kind

    def test_where_contents_are_refused(self):
        ahead = "table ways entry "
        for begun, behind in [
            ("", "end"), ("table ", "end"), ("table ", "way end"), ("table ", "Ways"),
            ("table ways ", "table ways end"), ("table ways ", "then"), ("table ways end ", "table ways end"),
            ("table ways end ", "end"), (ahead, "end"), (ahead, "a"), (ahead, "01"), (ahead, "4294967296"),
            (ahead + "1 ", "/ 2"), (ahead + "1 ", "& 2"), (ahead + "1 ", "then"), (ahead + "1 ", "2"),
            (ahead + "1 to ", "then"), (ahead + "1 to 2 ", "3"), (ahead + "1 to 2 ", "end"),
            (ahead + "1 to 2 then ", "end"), (ahead + "1 to 2 then ", "3"), (ahead + "1 to 2 then ", "in"),
            (ahead + "1 to 2 then a 1 2 3 4 5 6 7 ", "to"), (ahead + "1 to 2 then a ", "b"),
            (ahead + "1 to 2 then a 1 ", "then"), (ahead + "1 to 2 then a 1 ", "02"),
            (ahead + "1 to 2 then a 1 ", "4294967296"), ("table ways ", "/"), ("", "tables"), ("table ways end ", "/"),
            ("table ways end ", "\t"), ("", "("), (ahead + "1 to 2 then ", "$a"), (ahead, "1to"),
        ]:
            self.refused(SMALL, begun + behind, len(begun))
        for writing in ["", " ", "table", "table ways", ahead, ahead + "1", ahead + "1 to 2 then",
            ahead + "1 to 2 then send 1"]:
            self.refused(SMALL, writing, len(writing))
        none = small_with(tables=(), control=())
        self.refused(none, "table ways end", 0)
        self.refused(none, "  /", 2)

    def test_a_stroke_is_a_mark_in_contents_alone(self):
        program = small_with(tables=(HOPS[:1] + (((TTL, "prefix"),),) + HOPS[2:],))
        writing = "table ways entry 128/1 then drop end"
        self.assertEqual(read_contents(program, writing), ((((((128, 1),), "drop", ()),)),))
        self.refused(program, "table ways entry 128//1 then drop end", 21)
        self.refused(program, "table ways entry 128 & 1 then drop end", 21)
        self.refused(program, "table ways entry 128 to 1 then drop end", 21)
        assert_raises(self, InvalidWriting, "place", 6, read_program, "order /")
        assert_raises(self, InvalidWriting, "place", 0, read_program, "/")

    def test_no_contents_that_the_forms_tell(self):
        entry = "entry 1 to 64 then send 3 "
        for writing in [
            "entry 1 to 64 then send 300", "entry 1 to 64 then send", "entry 1 to 64 then send 3 4",
            "entry 1 to 64 then drop 1",
            "entry 1 to 64 then none", "entry 1 to 256 then drop", "entry 2 to 1 then drop",
            "entry 1 to 4294967295 then drop",
            entry * 5,
        ]:
            self.refused(SMALL, f"table ways {writing} end", None)
        self.assertEqual(len(read_contents(SMALL, f"table ways {entry * 4} end")[0]), 4)
        for kind, texts in [
            ("exact", ["256"]), ("prefix", ["0 / 9", "1 / 7", "256 / 8", "255 / 0"]),
            ("mask", ["256 & 256", "1 & 0", "0 & 256"]),
        ]:
            program = small_with(tables=(HOPS[:1] + (((TTL, kind),),) + HOPS[2:],))
            for text in texts:
                self.refused(program, f"table ways entry {text} then drop end", None)

    def test_writings_of_contents_spoilt_in_many_ways(self):
        keys = ((KIND, "exact"), (TTL, "prefix"), (OLD, "mask"))
        program = small_with(tables=(HOPS, ("more", keys, ("drop", "send"), ("drop", ()), 32)))
        contents = (FILLED[0], (((255, (192, 2), (5, 7)), "drop", ()), ((0, (0, 0), (0, 0)), "send", (255,))))
        writing, kinds = show_contents(program, contents), []
        for whole in (writing, packed(writing), spread(writing)):
            for cut in range(len(whole) + 1):
                kinds.append(self.against_forms(program, whole[:cut]))
        for parts in spoilt(writing, Maker(1)):
            kinds.append(self.against_forms(program, " ".join(parts)))
            kinds.append(self.against_forms(program, packed(" ".join(parts))))
        for seed in range(60):
            maker = Maker(seed)
            program = maker.program()
            writing = show_contents(program, contents_of(maker, program))
            for parts in list(spoilt(writing, maker))[:40]:
                kinds.append(self.against_forms(program, " ".join(parts)))
        self.assertGreater(kinds.count("refused"), 1000)
        self.assertGreater(kinds.count("read"), 20)

    def test_the_fullest_program_has_contents_that_are_read_back(self):
        program = full_program()
        maker = Maker(3)
        for _ in range(3):
            contents = contents_of(maker, program)
            self.assertEqual(read_contents(program, show_contents(program, contents)), contents)


if __name__ == "__main__":
    unittest.main()
