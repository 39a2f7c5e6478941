"""The interface of lastwill/chests.py: its names and arguments, in the class itself."""

import inspect
import unittest

from lastwill import chests

METHODS = {
    "make": ["size"],
    "boxes": [],
    "size": ["box"],
    "put": ["box", "slot", "other", "holds"],
    "empty": ["box", "slot"],
    "told": ["box", "slot"],
    "take": ["box"],
    "drop": ["box"],
    "hands": [],
    "pair": ["home", "key", "other"],
    "unpair": ["pair"],
    "pairs": [],
    "bequeath": ["box", "deeds"],
    "will": ["box"],
}


class Interface(unittest.TestCase):
    def test_the_class_is_defined_in_its_file(self):
        self.assertEqual(chests.Chest.__module__, "lastwill.chests")

    def test_a_chest_is_made_without_arguments(self):
        self.assertEqual(list(inspect.signature(chests.Chest).parameters), [])

    def test_each_method_stands_in_the_class_itself_with_its_arguments(self):
        for name, arguments in METHODS.items():
            with self.subTest(name):
                self.assertIn(name, vars(chests.Chest))
                found = inspect.signature(vars(chests.Chest)[name])
                self.assertEqual(list(found.parameters), ["self"] + arguments)


if __name__ == "__main__":
    unittest.main()
