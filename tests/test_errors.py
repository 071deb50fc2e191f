"""Point 2 and the section seedbed/errors.py: the exceptions, and a refusal that raises each."""

import unittest

from helper import main_with
from seedbed import errors
from seedbed.checks import check_program, kinds_in, parse_program
from seedbed.code import check_code
from seedbed.compiler import compile_program
from seedbed.desk import Desk
from seedbed.direct import Direct
from seedbed.errors import (
    BadCode, BadCommand, BadOctets, BadProgram, BadText, IsDone, OutOfRange, SeedError,
)
from seedbed.machine import Machine
from seedbed.packing import pack_code, unpack_code
from seedbed.program import function_named
from seedbed.tidy import tidy_code
from seedbed.world import World

SUBCLASSES = [BadText, BadProgram, BadCode, BadOctets, OutOfRange, IsDone, BadCommand]
TEXTS = ["no such thing", "", " ", "two\nlines", "it's \"quoted\"", "100 {x} \\n", "0"]


class BaseClasses(unittest.TestCase):
    def test_seed_error_is_a_value_error(self):
        self.assertEqual(SeedError.__bases__, (ValueError,))

    def test_each_other_class_is_a_seed_error_directly(self):
        for kind in SUBCLASSES:
            with self.subTest(kind=kind.__name__):
                self.assertEqual(kind.__bases__, (SeedError,))

    def test_no_class_is_one_of_the_others(self):
        for kind in SUBCLASSES:
            for other in SUBCLASSES:
                with self.subTest(kind=kind.__name__, other=other.__name__):
                    self.assertEqual(issubclass(kind, other), kind is other)
            self.assertFalse(issubclass(SeedError, kind))

    def test_no_class_is_another_builtin_error(self):
        for kind in SUBCLASSES:
            for other in (TypeError, LookupError, ArithmeticError, RuntimeError, UnicodeError):
                self.assertFalse(issubclass(kind, other))

    def test_the_file_has_these_classes_and_no_others(self):
        names = [name for name, value in vars(errors).items() if isinstance(value, type)]
        self.assertEqual(sorted(names), sorted([kind.__name__ for kind in [SeedError, *SUBCLASSES]]))


class Texts(unittest.TestCase):
    def test_str_returns_the_text(self):
        for kind in [SeedError, *SUBCLASSES]:
            for text in TEXTS:
                with self.subTest(kind=kind.__name__, text=text):
                    self.assertEqual(str(kind(text)), text)

    def test_a_raised_one_is_caught_by_its_bases_and_keeps_its_text(self):
        for kind in [SeedError, *SUBCLASSES]:
            for base in (kind, SeedError, ValueError):
                with self.subTest(kind=kind.__name__, base=base.__name__):
                    with self.assertRaises(base) as caught:
                        raise kind("why")
                    self.assertIs(type(caught.exception), kind)
                    self.assertEqual(str(caught.exception), "why")

    def test_one_kind_is_not_caught_as_another(self):
        for kind in SUBCLASSES:
            for other in SUBCLASSES:
                if other is kind:
                    continue
                with self.subTest(kind=kind.__name__, other=other.__name__):
                    with self.assertRaises(kind):
                        try:
                            raise kind("why")
                        except other:
                            pass


EMPTY = main_with([])
CODE = [("main", 0, 0, [], [])]
WRONG = main_with([("emit", True)])


def resumed(coroutine):
    coroutine.resume()
    return coroutine


REFUSALS = [
    (BadProgram, lambda: check_program(WRONG)),
    (BadProgram, lambda: compile_program(WRONG)),
    (BadProgram, lambda: World(WRONG, kind="other")),
    (BadProgram, lambda: Desk(WRONG)),
    ((BadProgram, BadText), lambda: parse_program("func main none\n  emit true\nend\n")),
    (BadText, lambda: parse_program("func\n")),
    (BadCode, lambda: check_code([])),
    (BadCode, lambda: tidy_code([])),
    (BadCode, lambda: pack_code([])),
    (BadOctets, lambda: unpack_code([])),
    (BadOctets, lambda: unpack_code([*pack_code(CODE), 0])),
    (OutOfRange, lambda: function_named(EMPTY, "f")),
    (OutOfRange, lambda: kinds_in(EMPTY, "f")),
    (OutOfRange, lambda: Direct(EMPTY, "f", [])),
    (OutOfRange, lambda: Direct(EMPTY, "main", [1])),
    (OutOfRange, lambda: Direct(EMPTY, "main", []).resume(("value", None))),
    (OutOfRange, lambda: Machine(CODE, "f", [])),
    (OutOfRange, lambda: Machine(CODE, "main", [1])),
    (OutOfRange, lambda: Machine(CODE, "main", []).resume(("value", None))),
    (OutOfRange, lambda: World(EMPTY, kind="other")),
    (OutOfRange, lambda: World(EMPTY).run([-1])),
    (OutOfRange, lambda: World(EMPTY).run([], most=-1)),
    (IsDone, lambda: resumed(Direct(EMPTY, "main", [])).resume()),
    (IsDone, lambda: resumed(Machine(CODE, "main", [])).resume(("value", None))),
    (BadCommand, lambda: Desk(EMPTY).ask("")),
    (BadCommand, lambda: Desk(EMPTY).ask("run 01")),
]


class Refusals(unittest.TestCase):
    def test_each_raises_an_exception_of_its_own_class(self):
        for kinds, refusal in REFUSALS:
            kinds = kinds if isinstance(kinds, tuple) else (kinds,)
            with self.assertRaises(SeedError) as caught:
                refusal()
            self.assertIn(type(caught.exception), kinds)
            self.assertIsInstance(str(caught.exception), str)

    def test_each_class_is_raised(self):
        self.assertEqual({kind for kind, _ in REFUSALS if not isinstance(kind, tuple)}, set(SUBCLASSES))


if __name__ == "__main__":
    unittest.main()
