import inspect
import unittest

from partline import plans, stretches

FUNCTIONS = [
    (plans, "need_plan", ["plan"]),
    (plans, "share", ["plan", "sign"]),
    (plans, "behind", ["plan", "sign"]),
    (plans, "need_signs", ["plan", "signs"]),
    (stretches, "parted", ["stretch", "one"]),
    (stretches, "within", ["one", "other"]),
    (stretches, "stretch_of", ["plan", "signs"]),
    (stretches, "figured", ["figures"]),
]


class InterfaceTest(unittest.TestCase):
    def test_functions_are_defined_in_their_files(self):
        for module, name, _ in FUNCTIONS:
            with self.subTest(name):
                function = getattr(module, name)
                self.assertTrue(inspect.isfunction(function))
                self.assertEqual(function.__module__, module.__name__)

    def test_functions_take_what_is_listed(self):
        for module, name, parameters in FUNCTIONS:
            with self.subTest(name):
                taken = inspect.signature(getattr(module, name)).parameters
                self.assertEqual(list(taken), parameters)
                for parameter in taken.values():
                    self.assertIs(parameter.default, inspect.Parameter.empty)
                    self.assertIs(parameter.kind, inspect.Parameter.POSITIONAL_OR_KEYWORD)
