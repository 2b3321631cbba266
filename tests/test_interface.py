"""The interface: each name stands in the file under which it is listed, with the parameters told."""

import importlib
import inspect
import unittest

from switchstages import headers, parsers
from switchstages.errors import StageError
from tests.samples import FRAME, HEADERS, JUNK

LISTED = {
    "headers": {
        "are_headers": ["value"], "is_packet": ["value"], "size_of": ["headers", "index"],
        "read_header": ["headers", "index", "taken"], "write_header": ["headers", "index", "words"],
    },
    "parsers": {
        "is_frame": ["value"], "way_of": ["frame", "packet"], "parse": ["frame", "packet"],
        "send": ["frame", "fields", "rest"], "comes_back": ["frame", "packet"],
    },
}


class InterfaceTest(unittest.TestCase):
    def test_names_and_parameters(self):
        for module, functions in LISTED.items():
            for name, parameters in functions.items():
                found = getattr(importlib.import_module("switchstages." + module), name)
                told = inspect.signature(found).parameters.values()
                self.assertEqual(found.__module__, "switchstages." + module)
                self.assertEqual([parameter.name for parameter in told], parameters)
                for parameter in told:
                    self.assertIs(parameter.kind, parameter.POSITIONAL_OR_KEYWORD)
                    self.assertIs(parameter.default, parameter.empty)

    def test_true_or_false_is_told_whatever_the_value_is(self):
        for value in JUNK + [HEADERS, FRAME, (1, (2,)), ()]:
            for call in (headers.are_headers, headers.is_packet, parsers.is_frame):
                self.assertIsInstance(call(value), bool)
                self.assertIs(call(value), call(value=value))

    def test_whatever_is_passed_only_own_errors_are_raised(self):
        calls = [
            (headers.size_of, [HEADERS, 0]), (headers.read_header, [HEADERS, 1, (35,)]),
            (headers.write_header, [HEADERS, 1, (1, 3)]), (parsers.way_of, [FRAME, (1, (7, 35))]),
            (parsers.parse, [FRAME, (1, (7, 35))]), (parsers.send, [FRAME, ((7,), (1, 3)), ()]),
            (parsers.comes_back, [FRAME, (1, (7, 35))]),
        ]
        for call, right in calls:
            call(*right)
            for at in range(len(right)):
                for value in JUNK:
                    with self.assertRaises(StageError):
                        call(*right[:at], value, *right[at + 1:])


if __name__ == "__main__":
    unittest.main()
