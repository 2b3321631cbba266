"""The interface: each name stands in the file under which it is listed, with the parameters told."""

import importlib
import inspect
import unittest

from switchstages import (
    certificates, checker, console, flows, headers, keyforms, layouts, parsers, programs, ranges, tables, texts, units,
    ways,
)
from switchstages.errors import StageError
from tests.samples import FRAME, HEADERS, JUNK
from tests.small import FILLED, NONE, SMALL
from tests.test_flows import COMING
from tests.test_keyforms import FORM
from tests.test_layouts import CHIP, LAID, MADE
from tests.test_tables import KEYS, THREE

FILLING = (7, 0, 0, 0, 1, 0, 9, 0, 0)
# All functions that raise errors, with arguments that are right.
CALLS = [
    (headers.size_of, [HEADERS, 0]), (headers.read_header, [HEADERS, 1, (35,)]),
    (headers.write_header, [HEADERS, 1, (1, 3)]), (parsers.way_of, [FRAME, (1, (7, 35))]),
    (parsers.parse, [FRAME, (1, (7, 35))]), (parsers.send, [FRAME, ((7,), (1, 3)), ()]),
    (parsers.comes_back, [FRAME, (1, (7, 35))]), (ways.ways, [FRAME]), (ways.packet_on, [FRAME, ("start", "accept")]),
    (ways.dead_states, [FRAME]), (ways.lost, [FRAME]), (ways.does_lead, [FRAME, 0, 7]), (programs.boxes_of, [SMALL]),
    (programs.widths_of, [SMALL]), (programs.first_cells, [SMALL]),
    (programs.worked, [SMALL, FILLED, NONE, (1, (7, 35))]),
    (programs.worked_all, [SMALL, FILLED, NONE, ((1, (7, 35)),)]), (programs.behind, [SMALL, FILLED, NONE, FILLING]),
    (texts.show_program, [SMALL]), (texts.read_program, [texts.show_program(SMALL)]),
    (texts.show_contents, [SMALL, FILLED]), (texts.read_contents, [SMALL, texts.show_contents(SMALL, FILLED)]),
    (tables.hit_by, [KEYS, THREE, (1, 1)]), (tables.told_by, [KEYS, THREE, (1, 1)]), (tables.idle_in, [KEYS, THREE]),
    (tables.without_idle, [KEYS, THREE]), (keyforms.form_of, [KEYS, THREE]),
    (keyforms.form_tells, [KEYS, FORM, (1, 3)]), (keyforms.parting, [KEYS, THREE, THREE[:1]]),
    (ranges.prefixes_of, [4, 3, 12]), (ranges.spread, [KEYS, THREE]), (units.units_of, [SMALL]),
    (units.reads_of, [SMALL, MADE, 7]), (units.writes_of, [SMALL, MADE, 0]), (units.atoms_of, [SMALL, MADE]),
    (units.done, [SMALL, FILLED, MADE, NONE, FILLING]), (layouts.wrong_in, [SMALL, MADE, LAID]),
    (layouts.leans_on, [SMALL, MADE, 7]), (layouts.early, [SMALL, MADE]), (layouts.lives, [SMALL, MADE, LAID, 2]),
    (layouts.over, [SMALL, MADE, LAID, CHIP]), (layouts.fitted, [SMALL, MADE, 1, CHIP, 1]),
    (flows.flow, [SMALL, FILLED, MADE, LAID, NONE, COMING]), (flows.stand,
        [SMALL, FILLED, MADE, LAID, NONE, COMING, 2]),
    (certificates.certify_parse, [FRAME, (1, (7, 35))]), (certificates.certify_back, [FRAME]),
    (certificates.certify_way, [FRAME, ("start", "accept")]), (certificates.certify_state, [FRAME, 1]),
    (certificates.certify_read, ["header"]), (certificates.certify_worked, [SMALL, FILLED, NONE, ((1, (7, 35)),)]),
    (certificates.certify_tables, [KEYS, THREE, KEYS, THREE[:1]]), (certificates.certify_entry, [KEYS, THREE, 2]),
    (certificates.certify_prefixes, [4, 3, 12, 4]), (certificates.certify_done, [SMALL, MADE, FILLED, NONE, FILLING]),
    (certificates.certify_layout, [SMALL, MADE, LAID]),
    (certificates.certify_sent, [SMALL, LAID, FILLED, NONE, ((1, (7, (1, 70, 6))),)]),
    (certificates.certify_flow, [SMALL, FILLED, MADE, LAID, NONE, COMING]),
    (certificates.certify_before, [SMALL, MADE, 7, 4]), (certificates.certify_laid, [SMALL, MADE, 1, CHIP, 1]),
]
CONSOLE = console.fresh_console()

# Values that are right there, though they are nothing in other places.
RIGHT_TOO = {"contents": [((),)], "entries": [()], "others": [()], "form": [None], "packets": [()], "coming": [()],
    "arrivals": [()]}

LISTED = {
    "headers": {
        "are_headers": ["value"], "is_packet": ["value"], "size_of": ["headers", "index"],
        "read_header": ["headers", "index", "taken"], "write_header": ["headers", "index", "words"],
    },
    "parsers": {
        "is_frame": ["value"], "way_of": ["frame", "packet"], "parse": ["frame", "packet"],
        "send": ["frame", "fields", "rest"], "comes_back": ["frame", "packet"],
    },
    "ways": {
        "ways": ["frame"], "packet_on": ["frame", "way"], "dead_states": ["frame"], "lost": ["frame"],
        "does_lead": ["frame", "state", "word"],
    },
    "programs": {
        "is_program": ["value"], "is_contents": ["program", "value"], "is_cells": ["program", "value"],
        "boxes_of": ["program"], "widths_of": ["program"], "first_cells": ["program"],
        "worked": ["program", "contents", "cells", "packet"],
        "worked_all": ["program", "contents", "cells", "packets"],
        "behind": ["program", "contents", "cells", "filling"],
    },
    "texts": {
        "show_program": ["program"], "read_program": ["writing"], "show_contents": ["program", "contents"],
        "read_contents": ["program", "writing"],
    },
    "tables": {
        "is_keys": ["value"], "are_entries": ["keys", "value"], "hit_by": ["keys", "entries", "words"],
        "told_by": ["keys", "entries", "words"], "idle_in": ["keys", "entries"], "without_idle": ["keys", "entries"],
    },
    "keyforms": {
        "form_of": ["keys", "entries"], "form_tells": ["keys", "form", "words"],
        "parting": ["keys", "entries", "others"],
    },
    "ranges": {
        "prefixes_of": ["width", "low", "high"], "are_marks": ["width", "low", "high", "value"],
        "spread": ["keys", "entries"],
    },
    "units": {
        "units_of": ["program"], "is_made": ["program", "value"], "reads_of": ["program", "made", "unit"],
        "writes_of": ["program", "made", "unit"], "atoms_of": ["program", "made"],
        "done": ["program", "contents", "made", "cells", "filling"],
    },
    "layouts": {
        "is_layout": ["program", "made", "value"], "is_chip": ["value"], "wrong_in": ["program", "made", "layout"],
        "leans_on": ["program", "made", "unit"], "early": ["program", "made"],
        "lives": ["program", "made", "layout", "stage"], "over": ["program", "made", "layout", "chip"],
        "fitted": ["program", "made", "gap", "chip", "most"],
    },
    "flows": {
        "flow": ["program", "contents", "made", "layout", "cells", "coming"],
        "stand": ["program", "contents", "made", "layout", "cells", "coming", "beat"],
    },
    "certificates": {
        "certify_parse": ["frame", "packet"], "certify_back": ["frame"], "certify_way": ["frame", "way"],
        "certify_state": ["frame", "state"], "certify_read": ["writing"],
        "certify_worked": ["program", "contents", "cells", "packets"],
        "certify_tables": ["keys", "entries", "other_keys", "others"], "certify_entry": ["keys", "entries", "index"],
        "certify_prefixes": ["width", "low", "high", "many"],
        "certify_done": ["program", "made", "contents", "cells", "filling"],
        "certify_layout": ["program", "made", "layout"],
        "certify_sent": ["program", "layout", "contents", "cells", "arrivals"],
        "certify_flow": ["program", "contents", "made", "layout", "cells", "coming"],
        "certify_before": ["program", "made", "unit", "stage"],
        "certify_laid": ["program", "made", "gap", "chip", "most"],
    },
    "checker": {"accepts": ["claim", "paper"]},
    "console": {"fresh_console": [], "said": ["console", "line"], "told_all": ["console", "lines"]},
}


class InterfaceTest(unittest.TestCase):
    def test_names_and_parameters(self):
        for module, functions in LISTED.items():
            for name, parameters in functions.items():
                found = getattr(importlib.import_module("switchstages." + module), name)
                told = inspect.signature(found).parameters.values()
                self.assertEqual(found.__module__, "switchstages." + module)
                self.assertEqual([parameter.name for parameter in told], parameters)
                for parameter in told:
                    self.assertIs(parameter.kind, parameter.POSITIONAL_OR_KEYWORD)
                    self.assertIs(parameter.default, parameter.empty)

    def test_each_function_that_raises_errors_is_called_here(self):
        # A console is one that was told, so its functions are tested by themselves.
        listed = [name for module, functions in LISTED.items() if module not in ("checker", "console") for name in
            functions if name.split("_")[0] not in ("is", "are")]
        self.assertEqual(listed, [call.__name__ for call, _ in CALLS])

    def test_true_or_false_is_told_whatever_the_value_is(self):
        calls = [
            (headers.are_headers, []), (headers.is_packet, []), (parsers.is_frame, []), (programs.is_program, []),
            (programs.is_contents, [SMALL]), (programs.is_cells, [SMALL]), (tables.is_keys, []),
            (tables.are_entries, [KEYS]), (ranges.are_marks, [4, 3, 12]), (units.is_made, [SMALL]),
            (layouts.is_layout, [SMALL, MADE]), (layouts.is_chip, []),
                (checker.accepts, [("right", SMALL, MADE, LAID)]),
        ]
        for value in JUNK + [HEADERS, FRAME, (1, (2,)), (), SMALL, FILLED, NONE, KEYS, THREE, MADE, LAID, CHIP, (3, 4)]:
            for call, ahead in calls:
                self.assertIsInstance(call(*ahead, value), bool)
                if call is not checker.accepts:
                    self.assertIs(call(*ahead, value), call(*ahead, value=value))
                self.assertIsInstance(checker.accepts(value, value), bool)

    def test_whatever_is_passed_only_own_errors_are_raised(self):
        for call, right in CALLS:
            call(*right)
            for at in range(len(right)):
                also = RIGHT_TOO.get(inspect.getfullargspec(call).args[at], [])
                if call is certificates.certify_read:
                    also = [value for value in JUNK if isinstance(value, str)]
                for value in [value for value in JUNK if value not in also]:
                    with self.assertRaises(StageError):
                        call(*right[:at], value, *right[at + 1:])

    def test_arguments_may_be_given_by_position_or_by_name(self):
        parameters = {name: told for functions in LISTED.values() for name, told in functions.items()}
        for call, right in CALLS:
            named = dict(zip(parameters[call.__name__], right))
            self.assertEqual(call(**dict(reversed(named.items()))), call(*right))

    def test_what_is_passed_is_left_as_it_is(self):
        for call, right in CALLS + [(console.said, [CONSOLE, "new"]), (console.told_all, [CONSOLE, ("new", "back")])]:
            before = repr(right)
            self.assertEqual(call(*right), call(*right))
            self.assertEqual(repr(right), before)


if __name__ == "__main__":
    unittest.main()
