"""Point 2 and the section seedbed/errors.py: the exceptions."""

import unittest

from seedbed import errors
from seedbed.errors import (
    BadCode, BadCommand, BadOctets, BadProgram, BadText, IsDone, OutOfRange, SeedError,
)

SUBCLASSES = [BadText, BadProgram, BadCode, BadOctets, OutOfRange, IsDone, BadCommand]
TEXTS = ["no such thing", "", " ", "two\nlines", "it's \"quoted\"", "100 {x} \\n", "0"]


class BaseClasses(unittest.TestCase):
    def test_seed_error_is_a_value_error(self):
        self.assertEqual(SeedError.__bases__, (ValueError,))

    def test_each_other_class_is_a_seed_error_directly(self):
        for kind in SUBCLASSES:
            with self.subTest(kind=kind.__name__):
                self.assertEqual(kind.__bases__, (SeedError,))

    def test_no_class_is_one_of_the_others(self):
        for kind in SUBCLASSES:
            for other in SUBCLASSES:
                with self.subTest(kind=kind.__name__, other=other.__name__):
                    self.assertEqual(issubclass(kind, other), kind is other)
            self.assertFalse(issubclass(SeedError, kind))

    def test_no_class_is_another_builtin_error(self):
        for kind in SUBCLASSES:
            for other in (TypeError, LookupError, ArithmeticError, RuntimeError, UnicodeError):
                self.assertFalse(issubclass(kind, other))

    def test_the_file_has_these_classes_and_no_others(self):
        names = [name for name, value in vars(errors).items() if isinstance(value, type)]
        self.assertEqual(sorted(names), sorted([kind.__name__ for kind in [SeedError, *SUBCLASSES]]))


class Texts(unittest.TestCase):
    def test_str_returns_the_text(self):
        for kind in [SeedError, *SUBCLASSES]:
            for text in TEXTS:
                with self.subTest(kind=kind.__name__, text=text):
                    self.assertEqual(str(kind(text)), text)

    def test_a_raised_one_is_caught_by_its_bases_and_keeps_its_text(self):
        for kind in [SeedError, *SUBCLASSES]:
            for base in (kind, SeedError, ValueError):
                with self.subTest(kind=kind.__name__, base=base.__name__):
                    with self.assertRaises(base) as caught:
                        raise kind("why")
                    self.assertIs(type(caught.exception), kind)
                    self.assertEqual(str(caught.exception), "why")

    def test_one_kind_is_not_caught_as_another(self):
        for kind in SUBCLASSES:
            for other in SUBCLASSES:
                if other is kind:
                    continue
                with self.subTest(kind=kind.__name__, other=other.__name__):
                    with self.assertRaises(kind):
                        try:
                            raise kind("why")
                        except other:
                            pass


if __name__ == "__main__":
    unittest.main()
