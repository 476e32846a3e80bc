"""arrowtrios.errors: each class with its attribute, its base class and the Python error above that."""

import inspect
import unittest

from arrowtrios import errors
from arrowtrios.standings import Standing

BASES = {"WrongValue": ValueError, "WrongName": LookupError, "NoAnswer": ArithmeticError}

GIVEN, INDEX, LIMIT = "given", "index", "limit"

# name: (base class, attribute)
KINDS = {
    "InvalidNumber": ("WrongValue", GIVEN),
    "InvalidNaming": ("WrongValue", GIVEN),
    "InvalidPlace": ("WrongValue", GIVEN),
    "InvalidName": ("WrongValue", GIVEN),
    "InvalidClaim": ("WrongValue", GIVEN),
    "InvalidIndex": ("WrongValue", GIVEN),
    "InvalidLine": ("WrongValue", GIVEN),
    "InvalidBound": ("WrongValue", GIVEN),
    "NotAStanding": ("WrongValue", GIVEN),
    "NotAWeb": ("WrongValue", GIVEN),
    "InvalidNumbers": ("WrongValue", INDEX),
    "InvalidTurns": ("WrongValue", INDEX),
    "InvalidRows": ("WrongValue", INDEX),
    "InvalidRemainders": ("WrongValue", INDEX),
    "InvalidDeeds": ("WrongValue", INDEX),
    "UnknownName": ("WrongName", GIVEN),
    "InUse": ("WrongName", INDEX),
    "TooGreat": ("NoAnswer", INDEX),
    "TooMany": ("NoAnswer", LIMIT),
    "NothingToUndo": ("NoAnswer", None),
    "Broken": ("NoAnswer", INDEX),
}

VALUES = (
    0, -1, 7, 10 ** 310, True, False, None, "", "abc", "two words", b"", b"ab", (), (1,), (1, 2, 3), ((), ("a",)), [],
    [1, [2, [3]]], {}, {"index": 1}, set(), object(), Standing(3, 4, 5), ValueError("x"), ValueError, len,
)


def made():
    """One object of each class with an attribute or none, by the name of the class."""
    return {name: getattr(errors, name)(*(() if attribute is None else (0,))) for name, (_, attribute) in KINDS.items()}


class ErrorsTest(unittest.TestCase):
    def test_the_classes_are_those_of_the_interface(self):
        classes = {name for name, value in vars(errors).items() if inspect.isclass(value)}
        self.assertEqual(classes, set(BASES) | set(KINDS))

    def test_base_classes_stand_under_just_their_python_error(self):
        for name, python in BASES.items():
            with self.subTest(name=name):
                self.assertEqual(getattr(errors, name).__bases__, (python,))

    def test_each_class_stands_under_just_its_base_class(self):
        for name, (base, _) in KINDS.items():
            with self.subTest(name=name):
                self.assertEqual(getattr(errors, name).__bases__, (getattr(errors, base),))

    def test_an_error_is_an_instance_of_no_other_class_of_the_package(self):
        for name, error in made().items():
            own = {name, KINDS[name][0]}
            for other in list(BASES) + list(KINDS):
                with self.subTest(name=name, other=other):
                    self.assertEqual(isinstance(error, getattr(errors, other)), other in own)

    def test_an_error_is_one_of_its_python_error_and_of_no_other(self):
        for name, error in made().items():
            for python in BASES.values():
                with self.subTest(name=name, python=python):
                    self.assertEqual(isinstance(error, python), python is BASES[KINDS[name][0]])

    def test_the_attribute_is_kept_as_it_was_given_by_place(self):
        for name, (_, attribute) in KINDS.items():
            if attribute is None:
                continue
            for value in VALUES:
                with self.subTest(name=name, value=value):
                    self.assertIs(getattr(getattr(errors, name)(value), attribute), value)

    def test_the_attribute_is_kept_as_it_was_given_by_name(self):
        for name, (_, attribute) in KINDS.items():
            if attribute is None:
                continue
            for value in VALUES:
                with self.subTest(name=name, value=value):
                    self.assertIs(getattr(getattr(errors, name)(**{attribute: value}), attribute), value)

    def test_a_list_that_is_given_is_not_changed(self):
        value = [1, [2]]
        self.assertIs(errors.InvalidClaim(value).given, value)
        self.assertEqual(value, [1, [2]])

    def test_each_class_can_be_raised_and_caught_under_its_base(self):
        for name, error in made().items():
            with self.subTest(name=name):
                with self.assertRaises(getattr(errors, KINDS[name][0])) as caught:
                    raise error
                self.assertIs(caught.exception, error)

    def test_a_class_with_an_attribute_takes_just_one(self):
        for name, (_, attribute) in KINDS.items():
            if attribute is not None:
                with self.subTest(name=name):
                    self.assertRaises(TypeError, getattr(errors, name))
                    self.assertRaises(TypeError, getattr(errors, name), 1, 2)
                    self.assertRaises(TypeError, getattr(errors, name), other=1)

    def test_classes_without_an_attribute_take_none(self):
        for name in [*BASES, "NothingToUndo"]:
            with self.subTest(name=name):
                self.assertIsInstance(getattr(errors, name)(), getattr(errors, name))
                self.assertRaises(TypeError, getattr(errors, name), 1)
                self.assertRaises(TypeError, getattr(errors, name), given=1)

    def test_errors_are_true_and_equal_only_to_themselves(self):
        for name, error in made().items():
            with self.subTest(name=name):
                self.assertTrue(error)
                self.assertTrue(error == error)
                self.assertFalse(error == made()[name])
                self.assertTrue(error != made()[name])


if __name__ == "__main__":
    unittest.main()
