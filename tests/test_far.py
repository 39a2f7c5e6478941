"""Refusals are of their class however far a number is, also beyond what Python writes in figures."""

from lastwill.errors import NoBox, NoPair, NoSlot, NoWill
from tests.helpers import ChestCase, busy_chest, chest_of

# By their signs, as a failed test could not write the numbers themselves.
FAR = {"above": 10 ** 5000, "below": -10 ** 5000}
BOX, SLOT, LEFT, RIGHT = 1, 0, 2, 3


class Far(ChestCase):
    def assert_each_refused(self, error, method, *given):
        """The method refuses with this class where the far number stands in the place of None."""
        for side, far in FAR.items():
            with self.subTest((method, side)):
                chest = busy_chest()
                self.assert_refused(error, chest, method, *[far if part is None else part for part in given])

    def test_sizes(self):
        self.assert_each_refused(NoSlot, "make", None)

    def test_boxes(self):
        for method, *given in (
            ("size", None),
            ("put", None, SLOT, LEFT, True),
            ("put", BOX, SLOT, None, True),
            ("empty", None, SLOT),
            ("told", None, SLOT),
            ("take", None),
            ("drop", None),
            ("pair", None, LEFT, RIGHT),
            ("pair", LEFT, None, RIGHT),
            ("pair", LEFT, RIGHT, None),
            ("bequeath", None, [("up",)]),
            ("will", None),
        ):
            self.assert_each_refused(NoBox, method, *given)

    def test_slots(self):
        self.assert_each_refused(NoSlot, "put", BOX, None, LEFT, True)
        self.assert_each_refused(NoSlot, "empty", BOX, None)
        self.assert_each_refused(NoSlot, "told", BOX, None)

    def test_the_first_of_several_refusals(self):
        self.assert_each_refused(NoBox, "put", None, None, None, True)
        self.assert_each_refused(NoSlot, "put", BOX, None, None, True)
        self.assert_each_refused(NoBox, "empty", None, None)
        self.assert_each_refused(NoBox, "told", None, None)

    def test_pairs(self):
        self.assert_each_refused(NoPair, "unpair", None)

    def test_deeds(self):
        far = FAR["above"]
        for deed in (("down", -far), ("hang", -far, 0, True), ("hang", 0, -far, False), ("hang", far, -1, True),
                     ("hang", -1, far, False), ("hang", -far, -far, True)):
            self.assert_each_refused(NoWill, "bequeath", BOX, [("up",), deed])
        for deed in (("down", far), ("hang", far, far, True)):
            self.assert_each_refused(NoWill, "bequeath", BOX, [deed] * 10)

    def test_a_will_may_tell_far_numbers(self):
        far = FAR["above"]
        deeds = [("down", far), ("hang", far, 0, True), ("hang", 0, far, False)]
        chest = chest_of(1)
        chest.bequeath(0, deeds)
        self.assertTrue(chest.will(0) == deeds)
