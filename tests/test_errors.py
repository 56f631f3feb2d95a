"""The error classes. [20]"""

import unittest

from boundstead import errors
from boundstead.errors import SpatialError

WITH_ARGUMENT = {
    "BadValue": "at",
    "NoItem": "key",
    "TakenKey": "key",
    "OutOfRange": "key",
    "NoPage": "number",
    "TooMany": "word",
    "BadCut": "at",
    "BadBound": "at",
    "BadSyntax": "at",
    "BadLine": "at",
}
WITHOUT_ARGUMENT = ("BadPages", "Crashed", "NoStore", "TakenDisk", "Closed")
ALL = (*WITH_ARGUMENT, *WITHOUT_ARGUMENT)
VALUES = (0, 1, -7, 10 ** 30, 10 ** 5000, "", "items", "two words", None, True, (1, (2,)), [3, [4]])


def made_all():
    """One error of each of the fifteen classes."""
    with_one = [getattr(errors, name)(1) for name in WITH_ARGUMENT]
    return with_one + [getattr(errors, name)() for name in WITHOUT_ARGUMENT]


class ClassesTest(unittest.TestCase):
    def test_there_are_fifteen_and_the_base(self):
        found = {name for name, value in vars(errors).items() if isinstance(value, type)}
        self.assertEqual(len(ALL), 15)
        self.assertEqual(found, {"SpatialError", *ALL})

    def test_bases(self):
        self.assertEqual(SpatialError.__bases__, (Exception,))
        for name in ALL:
            self.assertEqual(getattr(errors, name).__bases__, (SpatialError,), name)

    def test_defined_in_their_file(self):
        for name in ("SpatialError", *ALL):
            made = getattr(errors, name)
            self.assertEqual((made.__module__, made.__name__), ("boundstead.errors", name))


class ArgumentTest(unittest.TestCase):
    def test_by_place(self):
        for name, word in WITH_ARGUMENT.items():
            for value in VALUES:
                self.assertIs(getattr(getattr(errors, name)(value), word), value)

    def test_by_name(self):
        for name, word in WITH_ARGUMENT.items():
            for value in VALUES:
                made = getattr(errors, name)(**{word: value})
                self.assertIs(getattr(made, word), value)

    def test_kept_under_that_name_alone(self):
        for name, word in WITH_ARGUMENT.items():
            self.assertEqual(vars(getattr(errors, name)(5)), {word: 5})
            self.assertEqual(vars(getattr(errors, name)(**{word: 5})), {word: 5})

    def test_an_argument_is_needed_and_only_one(self):
        for name in WITH_ARGUMENT:
            made = getattr(errors, name)
            with self.assertRaises(TypeError):
                made()
            with self.assertRaises(TypeError):
                made(1, 2)
            with self.assertRaises(TypeError):
                made(wrong=1)

    def test_without_an_argument(self):
        for name in WITHOUT_ARGUMENT:
            made = getattr(errors, name)()
            self.assertEqual(vars(made), {})
            self.assertEqual(made.args, ())


class RaisingTest(unittest.TestCase):
    def test_caught_as_own_class_as_base_and_as_exception(self):
        for error in made_all():
            for kind in (type(error), SpatialError, Exception):
                try:
                    raise error
                except kind as caught:
                    self.assertIs(caught, error)

    def test_not_caught_as_another_class(self):
        for error in made_all():
            others = tuple(getattr(errors, name) for name in ALL if name != type(error).__name__)
            self.assertEqual(len(others), 14)
            with self.assertRaises(type(error)):
                try:
                    raise error
                except others:
                    self.fail(type(error).__name__)

    def test_not_caught_as_an_error_of_python(self):
        for error in made_all():
            self.assertNotIsInstance(error, (ValueError, TypeError, LookupError, RuntimeError))

    def test_attribute_after_the_raise(self):
        for name, word in WITH_ARGUMENT.items():
            for value in (3, "word", None):
                with self.assertRaises(getattr(errors, name)) as caught:
                    raise getattr(errors, name)(value)
                self.assertIs(getattr(caught.exception, word), value)


if __name__ == "__main__":
    unittest.main()
