"""The interface: its names and arguments, each where DOC.md lists it."""

import inspect
import unittest

from lastwill import chests, notes, reaching, sweeping

METHODS = {
    "make": ["size"],
    "boxes": [],
    "size": ["box"],
    "put": ["box", "slot", "other", "holds"],
    "empty": ["box", "slot"],
    "told": ["box", "slot"],
    "take": ["box"],
    "drop": ["box"],
    "hands": [],
    "pair": ["home", "key", "other"],
    "unpair": ["pair"],
    "pairs": [],
    "bequeath": ["box", "deeds"],
    "will": ["box"],
}
FUNCTIONS = (
    (reaching, "come_to", ["chest"]),
    (reaching, "lost", ["chest"]),
    (sweeping, "order_of_wills", ["chest"]),
    (sweeping, "sweep", ["chest"]),
    (notes, "written", ["chest"]),
    (notes, "read", ["text"]),
)


class Interface(unittest.TestCase):
    def test_the_class_is_defined_in_its_file(self):
        self.assertEqual(chests.Chest.__module__, "lastwill.chests")

    def test_a_chest_is_made_without_arguments(self):
        self.assertEqual(list(inspect.signature(chests.Chest).parameters), [])

    def test_each_method_stands_in_the_class_itself_with_its_arguments(self):
        for name, arguments in METHODS.items():
            with self.subTest(name):
                self.assertIn(name, vars(chests.Chest))
                found = inspect.signature(vars(chests.Chest)[name])
                self.assertEqual(list(found.parameters), ["self"] + arguments)

    def test_each_function_is_defined_in_its_file_with_its_arguments(self):
        for module, name, arguments in FUNCTIONS:
            with self.subTest(name):
                function = getattr(module, name)
                self.assertEqual(function.__module__, module.__name__)
                self.assertEqual(list(inspect.signature(function).parameters), arguments)


if __name__ == "__main__":
    unittest.main()
