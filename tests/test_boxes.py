"""Point 2 and point 3: boxes, slots and hands."""

import unittest

from lastwill.chests import Chest
from lastwill.errors import NoBox, NoHand, NoSlot, TooMany
from tests.helpers import ChestCase, busy_chest, chest_of

FAR = 10 ** 30


class Making(ChestCase):
    def test_a_new_chest_is_without_anything(self):
        chest = Chest()
        self.assertEqual(chest.boxes(), [])
        self.assertEqual(chest.hands(), [])
        self.assertEqual(chest.pairs(), [])

    def test_numbers_go_from_0_on_in_the_order_of_making(self):
        chest = Chest()
        self.assertEqual([chest.make(size) for size in (3, 0, 9)], [0, 1, 2])
        self.assertEqual(chest.boxes(), [0, 1, 2])
        self.assertEqual([chest.size(box) for box in chest.boxes()], [3, 0, 9])

    def test_each_size_from_0_to_9_is_one(self):
        chest = chest_of(*range(10))
        self.assertEqual([chest.size(box) for box in range(10)], list(range(10)))

    def test_a_new_box_has_empty_slots_no_will_and_is_in_the_hands(self):
        chest = chest_of(9)
        self.assertEqual([chest.told(0, slot) for slot in range(9)], [None] * 9)
        self.assertEqual(chest.will(0), [])
        self.assertEqual(chest.hands(), [0])

    def test_no_such_size(self):
        chest = busy_chest()
        for size in (-1, 10, 11, -10, FAR, -FAR):
            with self.subTest(size):
                self.assert_refused(NoSlot, chest, "make", size)

    def test_a_refused_box_takes_no_number(self):
        chest = chest_of(1)
        self.assert_refused(NoSlot, chest, "make", 10)
        self.assertEqual(chest.make(9), 1)

    def test_60_boxes_at_most(self):
        chest = chest_of(*[0] * 59)
        self.assertEqual(chest.make(9), 59)
        self.assert_refused(TooMany, chest, "make", 0)
        self.assert_refused(TooMany, chest, "make", 9)
        self.assertEqual(chest.boxes(), list(range(60)))
        self.assertEqual(chest.size(59), 9)

    def test_a_full_chest_refuses_a_size_that_is_none_as_such(self):
        chest = chest_of(*[1] * 60)
        self.assert_refused(NoSlot, chest, "make", -1)
        self.assert_refused(NoSlot, chest, "make", 10)

    def test_the_size_of_no_box(self):
        chest = busy_chest()
        for box in (-1, 4, FAR):
            self.assert_refused(NoBox, chest, "size", box)
        self.assert_refused(NoBox, Chest(), "size", 0)


class Slots(ChestCase):
    def test_a_slot_tells_a_box_and_whether_it_holds_it(self):
        chest = chest_of(2, 0)
        self.assertIsNone(chest.put(0, 0, 1, True))
        self.assertIsNone(chest.put(0, 1, 1, False))
        for slot, holds in ((0, True), (1, False)):
            told = chest.told(0, slot)
            self.assertIs(type(told), tuple)
            self.assertEqual(told, (1, holds))
            self.assertIs(told[1], holds)

    def test_first_and_last_slot(self):
        for size in range(2, 10):
            chest = chest_of(size, 0)
            chest.put(0, 0, 0, True)
            chest.put(0, size - 1, 1, False)
            told = [chest.told(0, slot) for slot in range(size)]
            self.assertEqual(told, [(0, True)] + [None] * (size - 2) + [(1, False)])
        chest = chest_of(1)
        chest.put(0, 0, 0, True)
        self.assertEqual(chest.told(0, 0), (0, True))

    def test_what_a_slot_told_is_told_no_more(self):
        chest = chest_of(1, 0, 0)
        chest.put(0, 0, 1, True)
        chest.put(0, 0, 2, False)
        self.assertEqual(chest.told(0, 0), (2, False))
        chest.put(0, 0, 2, True)
        self.assertEqual(chest.told(0, 0), (2, True))

    def test_a_box_in_its_own_slot(self):
        chest = chest_of(1)
        chest.put(0, 0, 0, True)
        self.assertEqual(chest.told(0, 0), (0, True))
        self.assertEqual(chest.boxes(), [0])

    def test_a_slot_is_emptied_also_where_it_is_empty(self):
        chest = chest_of(2)
        chest.put(0, 0, 0, True)
        chest.put(0, 1, 0, False)
        self.assertIsNone(chest.empty(0, 0))
        self.assertIsNone(chest.empty(0, 0))
        self.assertIsNone(chest.told(0, 0))
        self.assertEqual(chest.told(0, 1), (0, False))

    def test_slots_of_one_box_and_of_others_are_apart(self):
        chest = chest_of(3, 3)
        chest.put(0, 1, 1, True)
        self.assertEqual([chest.told(0, slot) for slot in range(3)], [None, (1, True), None])
        self.assertEqual([chest.told(1, slot) for slot in range(3)], [None, None, None])

    def test_putting_changes_no_hands_and_no_wills(self):
        chest = chest_of(1, 1)
        chest.drop(1)
        chest.put(0, 0, 1, True)
        chest.put(1, 0, 1, True)
        self.assertEqual(chest.hands(), [0])
        self.assertEqual([chest.will(box) for box in chest.boxes()], [[], []])

    def test_no_box(self):
        chest = busy_chest()
        for box in (-1, 4, FAR):
            with self.subTest(box):
                self.assert_refused(NoBox, chest, "put", box, 0, 0, True)
                self.assert_refused(NoBox, chest, "empty", box, 0)
                self.assert_refused(NoBox, chest, "told", box, 0)
                self.assert_refused(NoBox, chest, "put", 1, 0, box, False)

    def test_no_slot(self):
        chest = busy_chest()
        for box, slot in ((0, 0), (0, -1), (1, 1), (1, -1), (2, 9), (2, -1), (2, -9), (3, 3), (3, FAR), (3, -FAR)):
            with self.subTest((box, slot)):
                self.assert_refused(NoSlot, chest, "put", box, slot, 0, True)
                self.assert_refused(NoSlot, chest, "empty", box, slot)
                self.assert_refused(NoSlot, chest, "told", box, slot)

    def test_the_first_of_several_refusals(self):
        chest = busy_chest()
        self.assert_refused(NoBox, chest, "put", 4, -1, 0, True)
        self.assert_refused(NoBox, chest, "put", 4, 0, -1, True)
        self.assert_refused(NoSlot, chest, "put", 1, 1, 4, True)
        self.assert_refused(NoSlot, chest, "put", 0, -1, -1, True)
        self.assert_refused(NoBox, chest, "empty", -1, -1)
        self.assert_refused(NoBox, chest, "told", -1, -1)


class Hands(ChestCase):
    def test_dropped_and_taken(self):
        chest = chest_of(0, 1, 2)
        self.assertIsNone(chest.drop(1))
        self.assertEqual(chest.hands(), [0, 2])
        self.assertIsNone(chest.take(1))
        self.assertEqual(chest.hands(), [0, 1, 2])

    def test_hands_are_told_rising(self):
        chest = chest_of(*[0] * 5)
        for box in (4, 0, 2):
            chest.drop(box)
        self.assertEqual(chest.hands(), [1, 3])
        for box in (4, 0):
            chest.take(box)
        self.assertEqual(chest.hands(), [0, 1, 3, 4])

    def test_taken_twice_is_dropped_once(self):
        chest = chest_of(0)
        for _ in range(3):
            self.assertIsNone(chest.take(0))
            self.assertEqual(chest.hands(), [0])
        chest.drop(0)
        self.assertEqual(chest.hands(), [])

    def test_dropped_twice(self):
        chest = busy_chest()
        chest.drop(0)
        self.assert_refused(NoHand, chest, "drop", 0)
        self.assert_refused(NoHand, chest, "drop", 2)

    def test_a_dropped_box_stays_a_box(self):
        chest = chest_of(1)
        chest.drop(0)
        self.assertEqual(chest.boxes(), [0])
        self.assertEqual(chest.size(0), 1)
        chest.put(0, 0, 0, False)
        self.assertEqual(chest.told(0, 0), (0, False))

    def test_no_box(self):
        chest = busy_chest()
        for box in (-1, 4, FAR):
            with self.subTest(box):
                self.assert_refused(NoBox, chest, "take", box)
                self.assert_refused(NoBox, chest, "drop", box)


if __name__ == "__main__":
    unittest.main()
