"""The classes of passedits.errors ([4] and the interface)."""

import unittest

from helping import odd_values
from passedits import errors

BASES = {"BadValue": ValueError, "BadName": LookupError, "NoAnswer": ArithmeticError}
GIVEN = {
    "InvalidText": "BadValue", "InvalidName": "BadValue", "InvalidNumber": "BadValue", "InvalidKinds": "BadValue",
    "InvalidEdit": "BadValue", "InvalidFirst": "BadValue", "InvalidArrival": "BadValue",
    "InvalidPromise": "BadValue", "InvalidChange": "BadValue", "InvalidWish": "BadValue",
    "InvalidIndex": "BadValue", "NotATable": "BadValue", "OtherKinds": "BadValue",
    "UnknownName": "BadName", "CannotDo": "NoAnswer",
}
INDEX = {
    "InvalidRows": "BadValue", "InvalidEdits": "BadValue", "InvalidChanges": "BadValue",
    "InvalidWishes": "BadValue", "InUse": "BadName", "Broken": "NoAnswer",
}
BARE = {"NothingToUndo": "NoAnswer"}
UNDER = {**GIVEN, **INDEX, **BARE}
ATTRIBUTES = {**{name: "given" for name in GIVEN}, **{name: "index" for name in INDEX}}


def made(name):
    """An object of the class with this name."""
    return getattr(errors, name)(3) if name in ATTRIBUTES else getattr(errors, name)()


class Errors(unittest.TestCase):
    def test_classes_are_defined_in_this_module(self):
        for name in (*BASES, *UNDER):
            with self.subTest(name=name):
                self.assertIs(type(getattr(errors, name)), type)
                self.assertEqual(getattr(errors, name).__module__, "passedits.errors")
                self.assertEqual(getattr(errors, name).__name__, name)

    def test_base_classes_stand_under_pythons_own(self):
        pythons = (ValueError, LookupError, ArithmeticError)
        for name, above in BASES.items():
            for other in pythons:
                with self.subTest(name=name, other=other):
                    self.assertEqual(issubclass(getattr(errors, name), other), other is above)
            for other in BASES:
                with self.subTest(name=name, other=other):
                    self.assertEqual(issubclass(getattr(errors, name), getattr(errors, other)), other == name)

    def test_each_class_is_under_its_base_class_alone(self):
        for name, base in UNDER.items():
            for other, pythons in BASES.items():
                with self.subTest(name=name, other=other):
                    self.assertEqual(issubclass(getattr(errors, name), getattr(errors, other)), other == base)
                    self.assertEqual(issubclass(getattr(errors, name), pythons), other == base)

    def test_no_class_is_under_another_one_than_its_base_class(self):
        for name in UNDER:
            for other in UNDER:
                with self.subTest(name=name, other=other):
                    self.assertEqual(issubclass(getattr(errors, name), getattr(errors, other)), other == name)

    def test_attribute_by_position_and_by_name(self):
        for name, attribute in ATTRIBUTES.items():
            error = getattr(errors, name)
            for value in odd_values():
                with self.subTest(name=name, value=value):
                    self.assertIs(getattr(error(value), attribute), value)
                    self.assertIs(getattr(error(**{attribute: value}), attribute), value)

    def test_there_is_no_other_attribute(self):
        for name in (*BASES, *UNDER):
            for attribute in ("given", "index"):
                with self.subTest(name=name, attribute=attribute):
                    self.assertEqual(hasattr(made(name), attribute), ATTRIBUTES.get(name) == attribute)

    def test_an_attribute_has_to_be_passed_by_its_own_name(self):
        for name, attribute in ATTRIBUTES.items():
            other = "index" if attribute == "given" else "given"
            with self.subTest(name=name):
                with self.assertRaises(TypeError):
                    getattr(errors, name)(**{other: 1})

    def test_raised_and_caught_by_each_class_above(self):
        for name, base in UNDER.items():
            for above in (getattr(errors, name), getattr(errors, base), BASES[base]):
                with self.subTest(name=name, above=above):
                    with self.assertRaises(above) as caught:
                        raise made(name)
                    self.assertIs(type(caught.exception), getattr(errors, name))

    def test_every_error_is_true(self):
        for name in (*BASES, *UNDER):
            self.assertIs(bool(made(name)), True, name)

    def test_errors_equal_no_value_of_another_class(self):
        for name in (*BASES, *UNDER):
            error = made(name)
            for value in (3, None, "", name, str(error), (3,), ValueError(3), Exception()):
                with self.subTest(name=name, value=value):
                    self.assertIs(error == value, False)
                    self.assertIs(value == error, False)
                    self.assertIs(error != value, True)
                    self.assertIs(value != error, True)


if __name__ == "__main__":
    unittest.main()
