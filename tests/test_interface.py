"""The names, arguments and places of the interface."""

import importlib
import inspect
import unittest

from parallax import errors

FUNCTIONS = {
    "parallax.system": {
        "check_system": ["s"],
        "is_path": ["s", "path"],
        "paths": ["s", "n"],
        "rows": ["s", "n"],
    },
    "parallax.watcher": {
        "check_watcher": ["w"],
        "goes": ["w", "state", "colours"],
        "accepts_paths": ["w", "systems", "paths"],
        "meet": ["v", "w"],
        "turned": ["w", "order"],
        "same": ["count"],
    },
    "parallax.question": {
        "check_question": ["q"],
        "starts": ["q"],
        "nexts": ["q", "p"],
        "first_crowd": ["q", "p"],
        "next_crowd": ["q", "crowd", "p"],
        "fails_first": ["q", "p"],
        "fails_next": ["q", "crowd", "p"],
    },
    "parallax.answer": {
        "answer": ["q"],
        "takes": ["q", "paper"],
    },
    "parallax.looks": {
        "shown_by": ["s", "t"],
        "equal_looks": ["s", "t"],
    },
}
BELOW = ("BadSystem", "BadWatcher", "BadQuestion", "BadPath", "TooMuch")


class Functions(unittest.TestCase):
    def test_functions_stand_where_the_interface_lists_them(self):
        for place, functions in FUNCTIONS.items():
            module = importlib.import_module(place)
            for name, arguments in functions.items():
                with self.subTest(place=place, name=name):
                    function = getattr(module, name)
                    self.assertTrue(inspect.isfunction(function))
                    self.assertEqual(function.__module__, place)
                    parameters = inspect.signature(function).parameters.values()
                    self.assertEqual([p.name for p in parameters], arguments)
                    for parameter in parameters:
                        self.assertEqual(parameter.kind, parameter.POSITIONAL_OR_KEYWORD)
                        self.assertIs(parameter.default, parameter.empty)


class Errors(unittest.TestCase):
    def test_parallax_error_is_a_value_error(self):
        self.assertEqual(errors.ParallaxError.__bases__, (ValueError,))

    def test_the_others_stand_right_below_it(self):
        for name in BELOW:
            with self.subTest(name=name):
                self.assertEqual(getattr(errors, name).__bases__, (errors.ParallaxError,))

    def test_all_are_defined_in_errors_and_differ(self):
        classes = [getattr(errors, name) for name in ("ParallaxError", *BELOW)]
        self.assertEqual(len(set(classes)), 6)
        for kind in classes:
            self.assertEqual(kind.__module__, "parallax.errors")

    def test_they_are_created_without_arguments(self):
        for name in ("ParallaxError", *BELOW):
            with self.subTest(name=name):
                kind = getattr(errors, name)
                self.assertEqual(kind().args, ())
                with self.assertRaises(kind):
                    raise kind()


if __name__ == "__main__":
    unittest.main()
