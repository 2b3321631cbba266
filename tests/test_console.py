"""Points 38 to 40: the console, its lines and answers, and its earlier states."""

import unittest

from switchstages.boxes import box_widths
from switchstages.console import fresh_console, said, told_all
from switchstages.errors import InvalidLines, TooMany
from switchstages.layouts import early, fitted, over, wrong_in
from switchstages.programs import boxes_of, first_cells, widths_of, worked_all
from switchstages.tables import idle_in
from switchstages.texts import read_program, show_contents, show_program
from switchstages.units import reads_of, units_of, writes_of
from tests.makers import Maker
from tests.samples import JUNK, assert_raises
from tests.small import FILLED, NONE, SMALL, controlled, full_program, small_with
from tests.test_layouts import LAID, MADE
from tests.test_units import wide_program

PROGRAM, CONTENTS = "program " + show_program(SMALL), "contents " + show_contents(SMALL, FILLED)
EARLY = "gap 1: 0 1 1 0 1 2 0 3 0 0 1, right"
HASTY = "lay 1 0 1 1 0 1 2 0 2 0 0 1"
COME = ("come 0 7 1 70 6 5", "come 1 7 1 9 6")
PLAIN = ((), (), (("s", None, ("accept",)),), (), (), (("a", (), ()),), (), ())
WORDS = ["program", "contents", "cell", "send", "lay", "early", "fit", "over", "come", "stand", "flow", "empty", "new",
    "show", "entries", "cells", "units", "forms", "coming", "back"]
ASKING = ["over 4 5 1 4 70", "stand 1", "flow", "show", "entries", "cells", "units", "forms", "coming"]


class ConsoleTest(unittest.TestCase):
    def begun(self, *lines):
        """A console with the small program and its contents, and some lines more."""
        return told_all(fresh_console(), (PROGRAM, CONTENTS) + lines)[0]

    def answers(self, *lines):
        return told_all(self.begun(), lines)[1]

    def test_the_examples(self):
        lines = (PROGRAM, CONTENTS, "send 7 0 9 5", "early", *COME, "flow", "cells")
        begun, answers = told_all(fresh_console(), lines)
        self.assertEqual(answers[1:], ("kept", "3: 0 8 5", EARLY, "1 come", "2 come",
            "0: 4: 1 70 0 5\n1: 3: 1 9 1\nthe same", "hits 0 0 0 0"))
        _, replies = told_all(begun, (HASTY, "over 4 5 1 4 70", "flow", "back", "over 4 5 1 4 70", "stand 1", "go"))
        told = [replies[0], replies[1], replies[3], replies[4], replies[6]]
        self.assertEqual(told, ["gap 1: 0 1 1 0 1 2 0 2 0 0 1, source: 7 reads 3", "not right", "back", "fits",
            "not understood"])
        told = [said(fresh_console(), line)[1] for line in ("flow", "program header", "back")]
        self.assertEqual(told, ["no program", "not read at 6", "nothing there"])

    def test_words_that_are_none(self):
        for console in (fresh_console(), self.begun()):
            for line in ["", " ", "     ", "go", "Program", "programs header", "senda 1", "send\n1", "\nsend 1",
                "\tflow",
                "program\nheader", "-", "7", "done", "flow\n", "SHOW", "flow,"]:
                self.assertEqual(said(console, line), (console, "not understood"), line)

    def test_without_a_program(self):
        fresh = fresh_console()
        for word in WORDS:
            if word not in ("program", "new", "back"):
                for behind in ("", " ", " 1 2 3", " x", " 00"):
                    self.assertEqual(said(fresh, word + behind), (fresh, "no program"))
        self.assertEqual(said(fresh, "back 1"), (fresh, "not understood"))
        self.assertEqual(said(fresh, "new 1"), (fresh, "not understood"))
        self.assertEqual(said(fresh, "program"), (fresh, "not understood"))
        self.assertEqual(said(fresh, "  program"), (fresh, "not understood"))
        self.assertEqual(said(fresh, "program "), (fresh, "not read at 0"))

    def test_programs_told(self):
        fresh = fresh_console()
        console, answer = said(fresh, PROGRAM)
        self.assertEqual(answer, "16 boxes, 11 units")
        self.assertEqual(console, ((SMALL, ((),), NONE, None, ()), fresh[:1]))
        self.assertEqual(said(fresh, "   program     " + show_program(SMALL).replace("\n", "  \n ") + "  ")[0], console)
        # A place is counted from behind the first blank behind the word.
        for line, answer in [("program header", "not read at 6"), ("  program header", "not read at 6"),
            ("program  header", "not read at 7"), ("program header  ", "not read at 8"),
                ("program \nheader 1", "not read at 8"),
            ("program    ", "not read at 3"), ("program order end action a end action a end control end",
            "no program told"), ("program +", "not read at 0"), ("program program", "not read at 0")]:
            self.assertEqual(said(fresh, line), (fresh, answer))
            self.assertEqual(said(console, line), (console, answer))

    def test_a_new_program_stands_alone(self):
        console = self.begun("cell 0 1 7", "early", *COME)
        other = controlled(("set", ("local", "out"), 3))
        told, answer = said(console, "program " + show_program(other))
        self.assertEqual([answer, told[0]], ["9 boxes, 1 units", (other, ((),), NONE, None, ())])
        self.assertEqual(told[1], console[1] + (console[0],))

    def test_programs_of_too_many_units_or_boxes(self):
        console = self.begun()
        for program, many in [(wide_program(15, 4, heads=1), 201), (wide_program(0, 0, 160), 251)]:
            for ahead in (console, fresh_console()):
                self.assertEqual(said(ahead, "program " + show_program(program)), (ahead, f"too many: {many}"))
        self.assertEqual(said(console, "program " + show_program(wide_program(15, 3, heads=1)))[1],
            "26 boxes, 200 units")
        self.assertTrue(said(console, "program " + show_program(full_program()))[1].startswith("too many: "))
        self.assertEqual(said(fresh_console(), "program " + show_program(PLAIN))[1], "3 boxes, 0 units")

    def test_contents_told(self):
        console = said(fresh_console(), PROGRAM)[0]
        told, answer = said(console, CONTENTS)
        self.assertEqual([answer, told], ["kept", ((SMALL, FILLED, NONE, None, ()), console[1] + (console[0],))])
        self.assertEqual(said(told, "contents table ways end")[0][0][1], ((),))
        for line, answer in [("contents", "not understood"), ("contents ", "not read at 0"),
            ("contents table way end", "not read at 6"), ("contents  table way end", "not read at 7"),
            ("contents table ways entry 1 to 64 then send 300 end", "no contents told"),
            ("contents table ways", "not read at 10"), ("contents table ways ", "not read at 11"),
            ("contents table ways end x", "not read at 15"), ("contents table ways entry 2 to 1 then drop end",
            "no contents told")]:
            self.assertEqual(said(told, line), (told, answer))
        # All else stays.
        begun = self.begun("cell 0 1 7", "early", *COME)
        self.assertEqual(said(begun, "contents table ways end")[0][0], (SMALL, ((),)) + begun[0][2:])

    def test_cells_told(self):
        begun = self.begun()
        told, answer = said(begun, "cell 0 3 65535")
        self.assertEqual([answer, told[0][2]], ["done", ((0, 0, 0, 65535),)])
        self.assertEqual(said(told, "cells"), (told, "hits 0 0 0 65535"))
        self.assertEqual(said(told, "  cell   0  0 0  ")[0][1], told[1] + (told[0],))
        for line in ["cell", "cell 0", "cell 0 0", "cell 0 0 0 0", "cell 1 0 0", "cell 0 4 0", "cell 0 0 65536",
            "cell 00 0 0",
            "cell 0 01 0", "cell 0 0 00", "cell 0 0 -1", "cell 0 0 x", "cell hits 0 0", "cell 0 0 4294967296",
            "cell 0 0 99999999999", "cell 0 0 1.", "cell 0 0 +1", "cell 0,0,0"]:
            self.assertEqual(said(begun, line), (begun, "not understood"), line)
        wide = said(fresh_console(), "program " + show_program(small_with(registers=(("a", 1, 1), ("hits", 32, 2)))))[0]
        told, _ = told_all(wide, ("cell 0 0 1", "cell 1 1 4294967295", "cell 0 0 2", "cell 1 1 4294967296"))
        self.assertEqual([told[0][2], said(told, "cells")[1]], [((1,), (0, 4294967295)), "a 1\nhits 0 4294967295"])

    def test_packets_sent(self):
        answers = self.answers("send 7 0 9 5", "send 7 0", "send 7", "send 7 0 0", "send 7 1 70 6 5", "send 7 1 9 6",
            "cells",
            "send 255 0 64")
        self.assertEqual(answers, ("3: 0 8 5", "refused", "refused", "gone", "4: 1 70 0 5", "3: 1 9 1", "hits 0 0 2 0",
            "3: 0 63"))
        begun = self.begun()
        for line in ["send", "send ", "send 256", "send 7 256", "send 7 01", "send 07 1", "send 7 -1", "send 7 x",
            "send 7 1.",
            "send 7 00", "send 7" + " 0" * 129, "send 7 10000000000", "send 7 0 9 \n5", "send 7 0x"]:
            self.assertEqual(said(begun, line), (begun, "not understood"))
        self.assertEqual(said(begun, "send 7 0 9" + " 0" * 126)[1], "3: 0 8" + " 0" * 126)
        self.assertEqual(said(said(fresh_console(), "program " + show_program(PLAIN))[0], "send 5")[1], "0:")
        # A packet that changes no cell changes nothing.
        self.assertEqual(said(begun, "send 7 0 9 5"), (begun, "3: 0 8 5"))
        self.assertEqual(said(begun, "send 7 1 70 6 5")[0], ((SMALL, FILLED, ((0, 0, 1, 0),), None, ()),
            begun[1] + (begun[0],)))

    def test_layouts_told(self):
        begun = self.begun()
        for line, answer in [
            ("lay 1 0 1 1 0 1 2 0 3 0 0 1", EARLY),
                ("lay 16 0 1 1 0 1 2 0 3 0 0 1", "gap 16: 0 1 1 0 1 2 0 3 0 0 1, right"),
            (HASTY, "gap 1: 0 1 1 0 1 2 0 2 0 0 1, source: 7 reads 3"),
            ("lay 1 0 1 1 0 0 2 0 3 0 0 1", "gap 1: 0 1 1 0 0 2 0 3 0 0 1, late: 4 asks 11"),
            ("lay 1" + " 63" * 11, "gap 1:" + " 63" * 11 + ", late: 1 asks 9"), ("early", EARLY), (" early ", EARLY),
            ("fit 1 4 5 1 4 70", EARLY), ("fit 3 4 5 1 4 70", "gap 3: 0 1 1 0 1 2 0 3 0 0 1, right"),
        ]:
            told, found = said(begun, line)
            self.assertEqual(found, answer)
            self.assertEqual(told[0][:3] + told[0][4:], begun[0][:3] + begun[0][4:])
            numbers = answer[4:].split(",")[0].replace(":", "").split(" ")
            self.assertEqual(told[0][3], (int(numbers[0]), tuple(int(word) for word in numbers[1:])))
            self.assertEqual(told[1], begun[1] + (begun[0],))
        for line in ["lay", "lay 1", "lay 1" + " 0" * 10, "lay 1" + " 0" * 12, "lay 0" + " 0" * 11,
            "lay 17" + " 0" * 11,
            "lay 1 64" + " 0" * 10, "lay 1 00" + " 0" * 10, "lay 01" + " 0" * 11, "lay x" + " 0" * 11, "early 1",
                "early x",
            "fit", "fit 1 4 5 1 4", "fit 1 4 5 1 4 70 1", "fit 0 4 5 1 4 70", "fit 17 4 5 1 4 70", "fit 1 0 5 1 4 70",
            "fit 1 65 5 1 4 70", "fit 1 4 201 1 4 70", "fit 1 4 5 17 4 70", "fit 1 4 5 1 257 70", "fit 1 4 5 1 4 4001",
            "fit 1 4 5 1 4 070", "fit 1 4 5 1 4 x"]:
            self.assertEqual(said(begun, line), (begun, "not understood"), line)
        for ahead in (begun, said(begun, HASTY)[0]):
            self.assertEqual(said(ahead, "fit 1 3 11 1 4 99"), (ahead, "none fits"))
        # The layout that stands already changes nothing.
        laid = said(begun, "early")[0]
        self.assertEqual(said(laid, "early"), (laid, EARLY))

    def test_wishes_that_are_not_kept(self):
        two = small_with(control=(("touch", "hits", 1, "add", 1, None), ("touch", "hits", 2, "add", 1, None)))
        sets = small_with(control=(("set", ("local", "old"), 1), ("set", ("local", "old"), 2)))
        for program, line, answer in [
            (two, "lay 1 0 0", "order: 0 and 1"), (two, "lay 1 1 0", "order: 0 and 1"),
                (two, "lay 1 0 1", "gap: 0 and 1"),
            (two, "lay 2 0 1", "right"), (sets, "lay 1 5 5", "once: 0 and 1"),
                (sets, "lay 1 5 4", "source: the end reads 3"),
            (sets, "lay 1 4 5", "right"),
        ]:
            console = said(fresh_console(), "program " + show_program(program))[0]
            self.assertEqual(said(console, line)[1], line.replace("lay 1", "gap 1:").replace("lay 2",
                "gap 2:") + ", " + answer)
        plain = said(fresh_console(), "program " + show_program(PLAIN))[0]
        self.assertEqual([said(plain, line)[1] for line in ("early", "lay 1", "lay 16", "fit 7 1 1 0 0 0", "lay 1 0")],
            ["gap 1:, right", "gap 1:, right", "gap 16:, right", "gap 7:, right", "not understood"])

    def test_too_many_ways_stages_or_gaps(self):
        found = {}
        for seed in range(60):
            program = Maker(seed).program()
            made = units_of(program)
            console = said(fresh_console(), "program " + show_program(program))[0]
            lay = "lay 1" + " 0" * len(made[1])
            try:
                layout = early(program, made)
            except TooMany as error:
                self.assertEqual(said(console, "early"), (console, f"too many: {error.given}"))
                if error.given > 16384:
                    for line in (lay, "fit 1 64 200 16 256 4000"):
                        self.assertEqual(said(console, line), (console, f"too many: {error.given}"))
                    found["ways"] = True
                else:
                    self.assertIn("gap 1:", said(console, lay)[1])
                    found["gap"] = True
                continue
            told, answer = said(console, "early")
            self.assertEqual(told[0][3], layout)
            self.assertTrue(answer.endswith(", right"))
            wish = wrong_in(program, made, (1, (0,) * len(made[1])))
            shown = said(console, lay)[1].split(", ", 1)[1]
            self.assertEqual(shown.split(":")[0], "right" if wish is None else wish[0])
        self.assertEqual(len(found), 2)

    def test_what_is_over(self):
        begun = self.begun()
        self.assertEqual(said(begun, "over 4 5 1 4 70"), (begun, "no layout"))
        self.assertEqual(said(begun, "over 4 5 1 4"), (begun, "not understood"))
        laid = said(begun, "early")[0]
        for line, answer in [("over 4 5 1 4 70", "fits"), ("over 4 5 1 4 69", "bits at 1"),
            ("over 3 5 1 4 70", "stages at 3"),
            ("over 4 4 1 4 70", "units at 0"), ("over 4 5 0 4 70", "looks at 0"), ("over 4 5 1 3 70", "room at 0"),
            ("  over  64 200 16 256  4000 ", "fits")]:
            self.assertEqual(said(laid, line), (laid, answer))
        for line in ["over", "over 4", "over 4 5 1 4 70 1", "over 0 5 1 4 70", "over 65 5 1 4 70", "over 4 0 1 4 70",
            "over 4 5 1 4 x", "over 4 5 1 4 070"]:
            self.assertEqual(said(laid, line), (laid, "not understood"))
        hasty = said(begun, HASTY)[0]
        self.assertEqual(said(hasty, "over 1 1 0 0 0"), (hasty, "not right"))

    def test_packets_that_come(self):
        console = self.begun()
        for line, answer in [
            ("come 5 7 1 70 6 5", "1 come"), ("come 5 7 1 9 6", "not later"), ("come 4 7 1 9 6", "not later"),
            ("come 5 7 1", "refused"), ("come 0 7 0", "refused"), ("come 6 7 1 9 6", "2 come"), ("come 1001 7 1 9 6",
            "not understood"), ("come 1000 0 0 1", "3 come"), ("come 1000 0 0 1", "not later"),
                ("come", "not understood"),
            ("come 1000", "not understood"), ("come 1000 256 1", "not understood"),
                ("come 1000 1 256", "not understood"),
            ("come 01000 1 1", "not understood"), ("come x 1 1", "not understood"), ("come 1000 7" + " 0" * 129,
            "not understood"), ("coming", "5: 7 1 70 6 5\n6: 7 1 9 6\n1000: 0 0 1"),
        ]:
            ahead = console
            console, found = said(console, line)
            self.assertEqual(found, answer, line)
            self.assertEqual(console == ahead, not answer.endswith(" come"))
        self.assertEqual(console[0][4], ((5, (7, (1, 70, 6, 5))), (6, (7, (1, 9, 6))), (1000, (0, (0, 1)))))
        console, answers = told_all(self.begun(), tuple(f"come {at} 7 0 9" for at in range(20)))
        self.assertEqual(answers[19], "20 come")
        for line, answer in [("come 20 7 0 9", "full"), ("come 19 7 0 9", "not later"), ("come 3 7 0", "refused"),
            ("come 1001 7 0 9", "not understood")]:
            self.assertEqual(said(console, line), (console, answer))
        plain = said(fresh_console(), "program " + show_program(PLAIN))[0]
        self.assertEqual(told_all(plain, ("come 0 1", "come 1 255" + " 255" * 128, "coming"))[1][2],
            "0: 1\n1: 255" + " 255" *
            128)

    def test_what_stands(self):
        begun = self.begun(*COME)
        self.assertEqual(said(begun, "stand 1"), (begun, "no layout"))
        self.assertEqual(said(begun, "stand 1101"), (begun, "not understood"))
        laid = said(begun, "early")[0]
        for line, answer in [
            ("stand 0", "0 in 0: 7 0 0 0 1 1 70 1 6\ncells 0 0 0 0"),
            ("stand 1", "0 in 1: 7 0 0 0 1 1 70 1 6\n1 in 0: 7 0 0 0 1 1 9 1 6\ncells 0 0 0 0"),
            ("stand 2", "0 in 2: 7 4 0 0 1 1 70 1 6\n1 in 1: 7 0 0 0 1 1 9 1 6\ncells 0 0 1 0"),
            ("stand 4", "1 in 3: 7 3 0 1 1 1 9 1 6\ncells 0 0 2 0"), ("stand 5", "cells 0 0 2 0"),
            ("stand  1100 ", "cells 0 0 2 0"),
        ]:
            self.assertEqual(said(laid, line), (laid, answer))
        for line in ["stand", "stand 1101", "stand 01", "stand x", "stand 1 2", "stand -1", "stand 11000000000"]:
            self.assertEqual(said(laid, line), (laid, "not understood"))
        plain = told_all(fresh_console(), ("program " + show_program(PLAIN), "early", "come 0 1"))[0]
        self.assertEqual(said(plain, "stand 0"), (plain, "cells"))
        two = small_with(registers=(("hits", 16, 2), ("a", 1, 1)), control=(("touch", "hits", 1, "add", 1, None),
            ("touch",
            "hits", 2, "add", 1, None)))
        console = told_all(fresh_console(), ("program " + show_program(two), "lay 1 1 1", "cell 1 0 1",
            "come 3 7 0 9"))[0]
        for line, answer in [("stand 0", "cells 0 0 1"), ("stand 4", "0 in 1: 7 0 0 0 1 0 9 0 0\ncells 0 0 1"),
            ("stand 5",
            "clashed"), ("stand 1100", "clashed"), ("flow", "clash at 4: register 0")]:
            self.assertEqual(said(console, line), (console, answer))

    def test_flows(self):
        begun = self.begun()
        self.assertEqual([said(begun, line)[1] for line in ("flow", "flow 1")], ["no layout", "not understood"])
        laid = said(begun, "early")[0]
        self.assertEqual(said(laid, "flow"), (laid, "the same"))
        console, answers = told_all(laid, COME + ("flow", "come 2 7 0 0 3", "come 900 7 0 9", "flow", "cell 0 2 500",
            "flow",
            "cells"))
        self.assertEqual(answers[2], "0: 4: 1 70 0 5\n1: 3: 1 9 1\nthe same")
        self.assertEqual(answers[5], "0: 4: 1 70 0 5\n1: 3: 1 9 1\n2: gone\n3: 3: 0 8\nthe same")
        self.assertEqual(answers[7], "0: 4: 1 70 244 5\n1: 3: 1 9 245\n2: gone\n3: 3: 0 8\nthe same")
        self.assertEqual(answers[8], "hits 0 0 500 0")
        hasty = said(self.begun(*COME), HASTY)[0]
        self.assertEqual(said(hasty, "flow"), (hasty, "0: 4: 1 70 0 5\n1: 3: 1 9 0\nunlike"))
        # The cells count, too: here the second touch comes ahead of the first one.
        two = small_with(control=(("touch", "hits", 1, "set", 1, None), ("touch", "hits", 1, "set", 2, None)))
        console = told_all(fresh_console(), ("program " + show_program(two), "lay 2 1 0", "come 0 7 0 9"))[0]
        self.assertEqual(said(console, "flow")[1], "0: 0: 0 9\nunlike")
        self.assertEqual(told_all(console, ("lay 2 0 1", "flow"))[1][1], "0: 0: 0 9\nthe same")
        sets = small_with(control=(("set", ("local", "old"), 1), ("set", ("local", "old"), 1)))
        console = told_all(fresh_console(), ("program " + show_program(sets), "lay 1 3 3", "come 7 7 0 9"))[0]
        self.assertEqual(said(console, "flow")[1], "clash at 10: 0 box 3")

    def test_what_is_shown(self):
        begun = self.begun()
        self.assertEqual(said(begun, "show"), (begun, show_program(SMALL)))
        self.assertEqual(said(begun, " entries "), (begun, show_contents(SMALL, FILLED)))
        self.assertEqual(said(begun, "cells"), (begun, "hits 0 0 0 0"))
        self.assertEqual(said(begun, "forms"), (begun, "ways"))
        self.assertEqual(said(begun, "coming"), (begun, "none"))
        rows = said(begun, "units")[1].split("\n")
        self.assertEqual([len(rows), rows[0], rows[2], rows[4], rows[10]], [11, "0 look writes 9 10 reads 6",
            "2 set writes 2 reads", "4 touch writes 12 reads 8", "10 set writes 6 reads 15"])
        for word in ["show", "entries", "cells", "units", "forms", "coming", "flow"]:
            self.assertEqual(said(begun, word + " 1"), (begun, "not understood"))
        plain = said(fresh_console(), "program " + show_program(PLAIN))[0]
        self.assertEqual([said(plain, word)[1] for word in ("cells", "units", "forms", "coming", "entries")],
            ["none"] * 4 +
            [""])

    def test_idle_entries_and_a_table_named_done(self):
        done = ("done",) + SMALL[6][0][1:]
        program = small_with(tables=(done, SMALL[6][0]), control=(("table", "done"),))
        console = said(fresh_console(), "program " + show_program(program))[0]
        self.assertEqual(said(console, "forms"), (console, "done\nways"))
        line = "contents table done entry 1 to 9 then drop entry 2 to 8 then drop entry 9 to 9 then drop end"
        line += " table ways end"
        told, answer = said(console, line)
        self.assertEqual([answer, said(told, "forms")[1]], ["kept", "done 1 2\nways"])
        alone = said(fresh_console(), "program " + show_program(small_with(tables=(done,), control=())))[0]
        # What only asks changes nothing, even if it is answered by done.
        self.assertEqual(said(alone, "forms"), (alone, "done"))

    def test_empty_and_new(self):
        begun = self.begun(*COME)
        told, answer = said(begun, "empty")
        self.assertEqual([answer, told], ["done", (begun[0][:4] + ((),), begun[1] + (begun[0],))])
        again, answer = said(told, "  empty ")
        self.assertEqual([answer, again], ["done", (told[0], told[1] + (told[0],))])
        told, answer = said(begun, "new")
        self.assertEqual([answer, told], ["done", (fresh_console()[0], begun[1] + (begun[0],))])
        self.assertEqual(said(told, "flow"), (told, "no program"))
        fresh = fresh_console()
        self.assertEqual(said(fresh, "new"), ((fresh[0], (fresh[0],)), "done"))
        for line in ("empty 1", "new x", "empty empty"):
            self.assertEqual(said(begun, line), (begun, "not understood"))
        # A cell that has the word already is one more state, too.
        told, _ = said(begun, "cell 0 0 0")
        self.assertEqual(told, (begun[0], begun[1] + (begun[0],)))

    def test_back(self):
        console, states = fresh_console(), []
        for line in (PROGRAM, CONTENTS, "early", COME[0], "send 7 1 9 6", "cell 0 0 9", "empty", "new"):
            states.append(console[0])
            console = said(console, line)[0]
        while states:
            self.assertEqual(said(console, "back 1"), (console, "not understood"))
            console, answer = said(console, " back ")
            self.assertEqual([answer, console], ["back", (states.pop(), tuple(states))])
        self.assertEqual(said(console, "back"), (console, "nothing there"))
        self.assertEqual(console, fresh_console())

    def test_20_earlier_states_and_one_more(self):
        begun = self.begun()
        for many in (17, 18, 19, 30):
            console, states = begun, list(begun[1])
            for at in range(many):
                states.append(console[0])
                console = said(console, f"cell 0 0 {at}")[0]
            self.assertEqual(console[1], tuple(states[-20:]))
        for at in reversed(range(20)):
            console, answer = said(console, "back")
            self.assertEqual([answer, len(console[1])], ["back", at])
        self.assertEqual([console[0][2], said(console, "back")[1]], [((9, 0, 0, 0),), "nothing there"])

    def test_blanks(self):
        begun = self.begun()
        for line in ("send 7 0 9 5", "lay 1 0 1 1 0 1 2 0 3 0 0 1", "cell 0 1 5", "come 5 7 0 9", "fit 1 4 5 1 4 70",
            "cells"):
            self.assertEqual(said(begun, "   " + line.replace(" ", "   ") + "    "), said(begun, line))
            self.assertEqual(said(begun, line + "\n")[1], "not understood")
            self.assertEqual(said(begun, line.replace(" ", "\t"))[1] == "not understood", " " in line)

    def test_numbers(self):
        begun = self.begun()
        for number in ("0", "5", "255"):
            self.assertNotEqual(said(begun, "send " + number)[1], "not understood")
        for number in ("00", "05", "0255", "256", "99999999999", "1" * 400, "-0", "+1", "1_0", "1e1", "0x1", "\u0661",
            "\u00b2",
            "1.0", "", "a", "1\n"):
            self.assertEqual(said(begun, "send " + number + " 1")[1] if number else said(begun, "send")[1],
                "not understood")

    def test_lines_that_only_ask_change_nothing(self):
        for ahead in [(), ("early",), ("early", *COME), (HASTY, *COME), COME]:
            console = self.begun(*ahead)
            for line in ASKING:
                self.assertEqual(said(console, line)[0], console)

    def test_rows_of_lines(self):
        lines = (PROGRAM, CONTENTS, "early", *COME, "flow", "go", "cells")
        console, answers = fresh_console(), []
        for line in lines:
            console, answer = said(console, line)
            answers.append(answer)
        self.assertEqual(told_all(fresh_console(), lines), (console, tuple(answers)))
        self.assertEqual(told_all(console, ()), (console, ()))
        self.assertEqual(len(told_all(console, ("cells",) * 60)[1]), 60)

    def test_wrong_parameters(self):
        console = fresh_console()
        for value in [value for value in JUNK if not isinstance(value, str)]:
            assert_raises(self, InvalidLines, "index", None, said, console, value)
            assert_raises(self, InvalidLines, "index", None, said, line=value, console=console)
        for value, index in [("flow", None), (["flow"], None), (("flow",) * 61, None), (("flow", None), 1), ((1,), 0),
            (("flow", b"flow"), 1), (("flow", ("flow",)), 1), (None, None), ({}, None)]:
            assert_raises(self, InvalidLines, "index", index, told_all, console, value)
            assert_raises(self, InvalidLines, "index", index, told_all, lines=value, console=console)
        self.assertEqual(fresh_console(), ((None, (), (), None, ()), ()))


class ManyProgramsTest(unittest.TestCase):
    def test_many_programs_by_the_console(self):
        flowed = 0
        for seed in range(90):
            maker = Maker(seed)
            program = maker.program()
            made = units_of(program)
            contents = maker.contents(program, box_widths(program[0], program[1]))
            console, answers = told_all(fresh_console(),
                ("program " + show_program(program), "contents " + show_contents(
                program, contents), "show", "entries", "units", "forms"))
            self.assertEqual(answers[:2], (f"{len(made[0])} boxes, {len(made[1])} units", "kept"))
            self.assertEqual([read_program(answers[2]), answers[3]], [program, show_contents(program, contents)])
            rows = [f"{at} {unit[0]} writes" + "".join(f" {box}" for box
                in writes_of(program, made, at)) + " reads" + "".join(
                f" {box}" for box in reads_of(program, made, at)) for at, unit in enumerate(made[1])]
            self.assertEqual(answers[4], "\n".join(rows) or "none")
            self.assertEqual(answers[5], "\n".join(self.idle_rows(program, contents)) or "none")
            packets = tuple(maker.packet() for _ in range(5))
            outcomes, cells = worked_all(program, contents, first_cells(program), packets)
            sent, answers = told_all(console, tuple(f"send {came_in}" + "".join(f" {byte}" for byte in taken)
                for came_in, taken
                in packets) + ("cells",))
            shown = [one if isinstance(one, str) else f"{one[0]}:" + "".join(f" {byte}" for byte in one[1]) for one
                in outcomes]
            self.assertEqual(list(answers[:5]), shown)
            self.assertEqual(sent[0][2], cells)
            flowed += self.flow(maker, program, console, packets, shown)
        self.assertGreater(flowed, 50)

    def idle_rows(self, program, contents):
        widths = dict(zip(boxes_of(program), widths_of(program)))
        for (name, keys, *_), entries in zip(program[6], contents):
            pairs = tuple((kind, widths[place if place[0] == "local" else place[1:]]) for place, kind in keys)
            yield name + "".join(f" {index}" for index in idle_in(pairs, entries))

    def flow(self, maker, program, console, packets, shown):
        console, answer = said(console, "early")
        if answer.startswith("too many"):
            return 0
        self.assertTrue(answer.endswith(", right"))
        made, layout = units_of(program), console[0][3]
        beat, rows = 0, []
        for (came_in, taken), outcome in zip(packets, shown):
            console, answer = said(console, f"come {beat} {came_in}" + "".join(f" {byte}" for byte in taken))
            if outcome != "refused":
                rows.append(f"{len(rows)}: {outcome}")
                self.assertEqual(answer, f"{len(rows)} come")
                beat += layout[0] + maker.pick([0, 0, 3])
        self.assertEqual(said(console, "flow")[1], "\n".join(rows + ["the same"]))
        chip = (1 + maker.upto(30), 1 + maker.upto(40), 1 + maker.upto(2), 10 * maker.upto(20), 100 * maker.upto(20))
        found = over(program, made, layout, chip)
        line = " ".join(str(number) for number in chip)
        self.assertEqual(said(console, "over " + line)[1], "fits" if found is None else f"{found[0]} at {found[1]}")
        found = fitted(program, made, layout[0], chip, 100)
        told = said(console, f"fit {layout[0]} {line}")
        self.assertEqual(told[0][0][3], found or layout)
        return 1


if __name__ == "__main__":
    unittest.main()
