"""Point 1, as far as it speaks of chests: whose the lists are, and that chests are apart."""

import unittest

from lastwill.errors import NoWill
from tests.helpers import ChestCase, busy_chest, chest_of, picture

LISTS = (("boxes",), ("hands",), ("pairs",), ("will", 1), ("will", 0))


def asked(chest, question):
    return getattr(chest, question[0])(*question[1:])


class Lists(ChestCase):
    def test_what_the_asker_does_to_a_list_changes_nothing(self):
        for question in LISTS:
            with self.subTest(question):
                chest = busy_chest()
                before = picture(chest)
                told = asked(chest, question)
                self.assertIs(type(told), list)
                told.append(("up",))
                self.assertEqual(picture(chest), before)
                told.reverse()
                self.assertEqual(picture(chest), before)
                told.clear()
                self.assertEqual(picture(chest), before)

    def test_each_asker_has_a_list_of_his_own(self):
        chest = busy_chest()
        for question in LISTS:
            with self.subTest(question):
                one, two = asked(chest, question), asked(chest, question)
                self.assertEqual(one, two)
                self.assertIsNot(one, two)
                one.append(7)
                self.assertNotEqual(one, two)

    def test_what_is_done_later_changes_no_list(self):
        chest = busy_chest()
        kept = [asked(chest, question) for question in LISTS]
        copies = [list(told) for told in kept]
        chest.make(2)
        chest.take(2)
        chest.drop(0)
        chest.unpair(0)
        chest.pair(4, 4, 4)
        chest.bequeath(1, [("down", 5)])
        chest.bequeath(0, [("up",)])
        chest.bequeath(1, [])
        picture(chest)
        self.assertEqual(kept, copies)

    def test_what_a_slot_told_is_changed_by_nothing_later(self):
        chest = chest_of(1, 0)
        chest.put(0, 0, 1, True)
        told = chest.told(0, 0)
        chest.put(0, 0, 0, False)
        chest.empty(0, 0)
        self.assertEqual(told, (1, True))

    def test_the_list_of_deeds_stays_the_askers_own(self):
        chest = chest_of(0, 0)
        deeds = [("up",), ("down", 3)]
        chest.bequeath(0, deeds)
        chest.bequeath(1, deeds)
        deeds.append(("down", -1))
        deeds[0] = ("down", 9)
        self.assertEqual(chest.will(0), [("up",), ("down", 3)])
        self.assertEqual(chest.will(1), [("up",), ("down", 3)])
        deeds.clear()
        self.assertEqual(chest.will(0), [("up",), ("down", 3)])

    def test_an_empty_list_of_deeds_stays_the_askers_own(self):
        chest = chest_of(0)
        deeds = []
        chest.bequeath(0, deeds)
        deeds.append(("up",))
        self.assertEqual(chest.will(0), [])

    def test_the_list_of_deeds_is_not_changed(self):
        chest = chest_of(0)
        deeds = [("up",), ("hang", 0, 0, True)]
        chest.bequeath(0, deeds)
        chest.will(0).clear()
        chest.bequeath(0, [])
        chest.bequeath(0, [("down", 1)])
        self.assertEqual(deeds, [("up",), ("hang", 0, 0, True)])

    def test_a_refused_list_of_deeds_is_not_changed(self):
        chest = chest_of(0)
        deeds = [("up",), ("down", -1)]
        self.assert_refused(NoWill, chest, "bequeath", 0, deeds)
        self.assertEqual(deeds, [("up",), ("down", -1)])

    def test_wills_of_two_boxes_are_apart(self):
        chest = chest_of(0, 0)
        deeds = [("up",)]
        chest.bequeath(0, deeds)
        chest.bequeath(1, chest.will(0))
        chest.bequeath(0, [])
        self.assertEqual(chest.will(1), [("up",)])


class Chests(ChestCase):
    def test_two_chests_do_not_touch_each_other(self):
        one, two = busy_chest(), busy_chest()
        before = picture(two)
        one.make(5)
        one.put(1, 0, 1, False)
        one.empty(2, 8)
        one.take(2)
        one.drop(0)
        one.pair(4, 4, 4)
        one.unpair(0)
        one.bequeath(1, [("down", 0)])
        one.bequeath(3, [("up",)])
        self.assertEqual(picture(two), before)
        self.assertNotEqual(picture(one), before)

    def test_each_chest_counts_for_itself(self):
        one, two = chest_of(*[0] * 60), chest_of()
        for _ in range(60):
            one.pair(0, 0, 0)
        self.assertEqual(two.boxes(), [])
        self.assertEqual(two.make(0), 0)
        self.assertEqual(two.pair(0, 0, 0), 0)


if __name__ == "__main__":
    unittest.main()
