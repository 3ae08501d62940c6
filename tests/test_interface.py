import inspect
import unittest

from partline import figures, plans, readers, reading, stretches, writers

FUNCTIONS = [
    (plans, "need_plan", ["plan"]),
    (plans, "share", ["plan", "sign"]),
    (plans, "behind", ["plan", "sign"]),
    (plans, "need_signs", ["plan", "signs"]),
    (stretches, "parted", ["stretch", "one"]),
    (stretches, "within", ["one", "other"]),
    (stretches, "stretch_of", ["plan", "signs"]),
    (stretches, "figured", ["figures"]),
    (figures, "figures_in", ["stretch"]),
    (figures, "pressed", ["plan", "signs"]),
    (reading, "certain", ["plan", "many", "figures"]),
    (reading, "read", ["plan", "many", "figures"]),
]

METHODS = [
    (readers, "Reader", "__init__", ["self", "plan", "many"]),
    (readers, "Reader", "take", ["self", "figures"]),
    (readers, "Reader", "told", ["self"]),
    (readers, "Reader", "lacking", ["self"]),
    (writers, "Writer", "__init__", ["self", "plan"]),
    (writers, "Writer", "take", ["self", "signs"]),
    (writers, "Writer", "end", ["self"]),
    (writers, "Writer", "told", ["self"]),
]


class InterfaceTest(unittest.TestCase):
    def test_functions_are_defined_in_their_files(self):
        for module, name, _ in FUNCTIONS:
            with self.subTest(name):
                function = getattr(module, name)
                self.assertTrue(inspect.isfunction(function))
                self.assertEqual(function.__module__, module.__name__)

    def test_functions_take_what_is_listed(self):
        for module, name, parameters in FUNCTIONS:
            with self.subTest(name):
                self.check_parameters(getattr(module, name), parameters)

    def test_classes_are_defined_in_their_files(self):
        for module, name, _, _ in METHODS:
            with self.subTest(name):
                self.assertTrue(inspect.isclass(getattr(module, name)))
                self.assertEqual(getattr(module, name).__module__, module.__name__)

    def test_methods_are_defined_in_their_classes_and_take_what_is_listed(self):
        for module, name, method, parameters in METHODS:
            with self.subTest(name=name, method=method):
                self.check_parameters(vars(getattr(module, name))[method], parameters)

    def check_parameters(self, function, parameters):
        taken = inspect.signature(function).parameters
        self.assertEqual(list(taken), parameters)
        for parameter in taken.values():
            self.assertIs(parameter.default, inspect.Parameter.empty)
            self.assertIs(parameter.kind, inspect.Parameter.POSITIONAL_OR_KEYWORD)
