"""The part "The interface": names and arguments, in the file that lists them."""

import importlib
import inspect
import unittest

FUNCTIONS = {
    "seedbed.program": {
        "fitted": "(number)",
        "value_of": "(expression, values)",
        "function_named": "(program, name)",
    },
    "seedbed.checks": {
        "check_program": "(program)",
        "kinds_in": "(program, name)",
        "parse_program": "(text)",
    },
    "seedbed.notation": {
        "format_program": "(program)",
    },
    "seedbed.direct": {
        "turns_of": "(coroutine, replies)",
    },
    "seedbed.code": {
        "check_code": "(code)",
    },
    "seedbed.compiler": {
        "compile_program": "(program)",
    },
    "seedbed.tidy": {
        "tidy_code": "(code)",
    },
    "seedbed.packing": {
        "pack_code": "(code)",
        "unpack_code": "(octets)",
    },
    "seedbed.audit": {
        "audit": "(events)",
    },
    "seedbed.waits": {
        "first_circle": "(waits)",
    },
}
CLASSES = {
    "seedbed.errors": [
        "SeedError", "BadText", "BadProgram", "BadCode", "BadOctets", "OutOfRange", "IsDone", "BadCommand",
    ],
    "seedbed.direct": ["Direct"],
    "seedbed.machine": ["Machine"],
    "seedbed.world": ["World"],
    "seedbed.desk": ["Desk"],
}
METHODS = {
    ("seedbed.direct", "Direct"): {
        "__init__": "(self, program, name, args)",
        "resume": "(self, reply=None)",
    },
    ("seedbed.machine", "Machine"): {
        "__init__": "(self, code, name, args)",
        "resume": "(self, reply=None)",
    },
    ("seedbed.world", "World"): {
        "__init__": "(self, program, *, kind='direct')",
        "run": "(self, schedule, *, most=1000)",
        "trace": "(self)",
        "output": "(self)",
        "waits": "(self)",
    },
    ("seedbed.desk", "Desk"): {
        "__init__": "(self, program)",
        "ask": "(self, command)",
    },
}


class Interface(unittest.TestCase):
    def test_functions_with_their_arguments_in_their_files(self):
        for module, functions in FUNCTIONS.items():
            for name, arguments in functions.items():
                with self.subTest(module=module, name=name):
                    function = getattr(importlib.import_module(module), name)
                    self.assertTrue(inspect.isfunction(function))
                    self.assertEqual(function.__module__, module)
                    self.assertEqual(function.__name__, name)
                    self.assertEqual(str(inspect.signature(function)), arguments)

    def test_classes_in_their_files(self):
        for module, names in CLASSES.items():
            for name in names:
                with self.subTest(module=module, name=name):
                    kind = getattr(importlib.import_module(module), name)
                    self.assertTrue(inspect.isclass(kind))
                    self.assertEqual(kind.__module__, module)
                    self.assertEqual(kind.__name__, name)

    def test_methods_with_their_arguments_in_their_classes(self):
        for (module, name), methods in METHODS.items():
            for method, arguments in methods.items():
                with self.subTest(module=module, name=name, method=method):
                    function = vars(getattr(importlib.import_module(module), name))[method]
                    self.assertEqual(str(inspect.signature(function)), arguments)

    def test_the_property_of_a_world(self):
        world = importlib.import_module("seedbed.world").World
        self.assertIsInstance(vars(world)["time"], property)
        self.assertIsNone(vars(world)["time"].fset)


if __name__ == "__main__":
    unittest.main()
