"""Point 5, its first sentence and the form of the deeds."""

import unittest

from lastwill.errors import NoBox, NoWill
from tests.helpers import ChestCase, busy_chest, chest_of, picture

FAR = 10 ** 30


class Wills(ChestCase):
    def test_a_will_of_each_kind_of_deed(self):
        chest = chest_of(0)
        deeds = [("up",), ("down", 0), ("hang", 0, 0, True), ("hang", 0, 0, False), ("up",)]
        self.assertIsNone(chest.bequeath(0, deeds))
        will = chest.will(0)
        self.assertEqual(will, deeds)
        self.assertIs(type(will), list)
        self.assertEqual({type(deed) for deed in will}, {tuple})
        self.assertIs(will[2][3], True)
        self.assertIs(will[3][3], False)

    def test_wills_of_one_to_nine_deeds(self):
        for many in range(1, 10):
            chest = chest_of(0)
            deeds = [("down", number) for number in range(many)]
            chest.bequeath(0, deeds)
            self.assertEqual(chest.will(0), deeds)

    def test_a_will_stands_in_the_place_of_what_the_box_had(self):
        chest = chest_of(0, 0)
        chest.bequeath(0, [("up",), ("down", 1)])
        chest.bequeath(1, [("up",)])
        chest.bequeath(0, [("down", 0)])
        self.assertEqual(chest.will(0), [("down", 0)])
        self.assertEqual(chest.will(1), [("up",)])

    def test_an_empty_list_is_no_will(self):
        chest = chest_of(0)
        chest.bequeath(0, [("up",)])
        self.assertIsNone(chest.bequeath(0, []))
        self.assertEqual(chest.will(0), [])
        chest.bequeath(0, [])
        self.assertEqual(chest.will(0), [])

    def test_other_and_slot_need_not_be_there(self):
        chest = chest_of(1)
        deeds = [("down", 1), ("down", FAR), ("hang", 7, 0, True), ("hang", 0, 1, False), ("hang", FAR, FAR, True)]
        chest.bequeath(0, deeds)
        self.assertEqual(chest.will(0), deeds)

    def test_giving_a_will_does_no_deed_of_it(self):
        chest = chest_of(1, 1)
        chest.drop(0)
        before = picture(chest)
        deeds = [("up",), ("down", 1), ("hang", 1, 0, True)]
        chest.bequeath(0, deeds)
        before["wills"] = [(0, deeds), (1, [])]
        self.assertEqual(picture(chest), before)

    def test_more_than_nine_deeds(self):
        chest = busy_chest()
        for many in (10, 11, 60):
            self.assert_refused(NoWill, chest, "bequeath", 1, [("up",)] * many)
            self.assert_refused(NoWill, chest, "bequeath", 0, [("down", 0)] * many)

    def test_a_number_below_0_at_each_place(self):
        chest = busy_chest()
        for low in (-1, -FAR):
            for deed in (("down", low), ("hang", low, 0, True), ("hang", 0, low, False), ("hang", low, low, True)):
                for at in range(9):
                    deeds = [("up",)] * 9
                    deeds[at] = deed
                    with self.subTest(deeds):
                        self.assert_refused(NoWill, chest, "bequeath", 1, deeds)
                        self.assert_refused(NoWill, chest, "bequeath", 2, deeds)
                self.assert_refused(NoWill, chest, "bequeath", 1, [deed])

    def test_0_is_a_number_at_each_place(self):
        chest = chest_of(0)
        deeds = [("down", 0), ("hang", 0, 0, False)]
        chest.bequeath(0, deeds)
        self.assertEqual(chest.will(0), deeds)

    def test_no_box(self):
        chest = busy_chest()
        for box in (-1, 4, FAR):
            with self.subTest(box):
                self.assert_refused(NoBox, chest, "bequeath", box, [("up",)])
                self.assert_refused(NoBox, chest, "bequeath", box, [])
                self.assert_refused(NoBox, chest, "will", box)

    def test_the_first_of_several_refusals(self):
        chest = busy_chest()
        self.assert_refused(NoBox, chest, "bequeath", 4, [("up",)] * 10)
        self.assert_refused(NoBox, chest, "bequeath", 4, [("down", -1)])


if __name__ == "__main__":
    unittest.main()
