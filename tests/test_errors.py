"""Point 5: the classes of errors."""

import unittest

from switchstages import errors

GIVEN = (
    "InvalidWord InvalidNumber InvalidHeaders InvalidFrame InvalidPacket InvalidFields InvalidRest InvalidWay "
    "InvalidProgram InvalidContents InvalidCells InvalidFilling InvalidKeys InvalidForm InvalidUnits InvalidLayout "
    "InvalidChip TooMany"
).split()
INDEX = "InvalidPackets InvalidEntries InvalidWords InvalidComing InvalidLines".split()
ATTRIBUTES = {**{name: "given" for name in GIVEN}, **{name: "index" for name in INDEX}, "InvalidWriting": "place"}
BARE = ("StageError", "NotShown")


class ErrorsTest(unittest.TestCase):
    def test_there_are_just_the_classes_told(self):
        found = [name for name, thing in vars(errors).items() if isinstance(thing, type)]
        self.assertEqual(sorted(found), sorted([*ATTRIBUTES, *BARE]))

    def test_each_class_is_defined_there(self):
        for name in [*ATTRIBUTES, *BARE]:
            self.assertEqual(getattr(errors, name).__module__, "switchstages.errors")

    def test_the_base_stands_under_value_error(self):
        self.assertEqual(errors.StageError.__bases__, (ValueError,))
        self.assertIsInstance(errors.StageError(), ValueError)

    def test_each_class_stands_under_the_base_alone(self):
        for name in [*ATTRIBUTES, "NotShown"]:
            self.assertEqual(getattr(errors, name).__bases__, (errors.StageError,), name)
            self.assertEqual(
                getattr(errors, name).__mro__[1:],
                (errors.StageError, ValueError, Exception, BaseException, object),
                name,
            )

    def test_each_class_keeps_whatever_it_is_made_with(self):
        kept = [None, True, 0, -5, 10 ** 399, "", "text", (), (1, (2,)), [1], {"a": []}, {3}, object(), ValueError]
        for name, attribute in ATTRIBUTES.items():
            for value in kept:
                for made in (getattr(errors, name)(value), getattr(errors, name)(**{attribute: value})):
                    self.assertIs(getattr(made, attribute), value)
                    self.assertEqual(list(vars(made)), [attribute])

    def test_each_class_takes_just_its_attribute(self):
        for name, attribute in ATTRIBUTES.items():
            made = getattr(errors, name)
            self.assertRaises(TypeError, made)
            self.assertRaises(TypeError, made, 1, 2)
            self.assertRaises(TypeError, made, **{attribute: 1, "other": 2})

    def test_those_without_attributes_have_none(self):
        for name in BARE:
            self.assertEqual(vars(getattr(errors, name)()), {})

    def test_one_is_not_caught_as_another_one(self):
        for name in ATTRIBUTES:
            for other in ATTRIBUTES:
                if other != name:
                    self.assertNotIsInstance(getattr(errors, name)(1), getattr(errors, other))

    def test_all_are_caught_by_the_base(self):
        for name in ATTRIBUTES:
            with self.assertRaises(errors.StageError):
                raise getattr(errors, name)(None)
        with self.assertRaises(errors.StageError):
            raise errors.NotShown()


if __name__ == "__main__":
    unittest.main()
