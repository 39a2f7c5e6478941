"""What several tests of chests need."""

import unittest

from lastwill.chests import Chest
from lastwill.errors import NoBox


def picture(chest):
    """All that a chest tells of itself."""
    boxes = chest.boxes()
    return {
        "sizes": [(box, chest.size(box)) for box in boxes],
        "slots": [(box, slot, chest.told(box, slot)) for box in boxes for slot in range(chest.size(box))],
        "hands": chest.hands(),
        "pairs": chest.pairs(),
        "wills": [(box, chest.will(box)) for box in boxes],
    }


def chest_of(*sizes):
    """A chest with new boxes of these sizes."""
    chest = Chest()
    for size in sizes:
        chest.make(size)
    return chest


def busy_chest():
    """A chest in which each kind of thing stands."""
    chest = chest_of(0, 1, 9, 3)
    chest.put(1, 0, 2, True)
    chest.put(2, 8, 1, False)
    chest.put(3, 1, 3, True)
    chest.drop(2)
    chest.pair(0, 1, 2)
    chest.pair(3, 3, 3)
    chest.bequeath(1, [("up",), ("down", 3), ("hang", 2, 4, True)])
    return chest


def chest_with(sizes, hands=(), holds=(), looks=(), pairs=(), wills=()):
    """A chest with boxes of these sizes.

    Of them just `hands` are in the hands; `holds` and `looks` are rows (box, slot, other), `pairs` rows
    (home, key, value), `wills` rows (box, deeds).
    """
    chest = chest_of(*sizes)
    for box in chest.boxes():
        if box not in hands:
            chest.drop(box)
    for box, slot, other in holds:
        chest.put(box, slot, other, True)
    for box, slot, other in looks:
        chest.put(box, slot, other, False)
    for row in pairs:
        chest.pair(*row)
    for box, deeds in wills:
        chest.bequeath(box, deeds)
    return chest


class ChestCase(unittest.TestCase):
    """A case that can ask for refusals."""

    def assert_refused(self, error, chest, method, *given):
        """The method refuses with just this class, and the chest tells all as before."""
        before = picture(chest)
        with self.assertRaises(error) as caught:
            getattr(chest, method)(*given)
        self.assertIs(type(caught.exception), error)
        self.assertEqual(picture(chest), before)

    def assert_no_box(self, chest, box):
        """The chest tells nothing of the box any more."""
        self.assertNotIn(box, chest.boxes())
        self.assertNotIn(box, chest.hands())
        for method in ("size", "take", "drop", "will"):
            self.assert_refused(NoBox, chest, method, box)
