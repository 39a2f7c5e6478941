"""Point 4: pairs."""

import unittest

from lastwill.chests import Chest
from lastwill.errors import NoBox, NoPair, TooMany
from tests.helpers import ChestCase, busy_chest, chest_of

FAR = 10 ** 30


class Pairs(ChestCase):
    def test_numbers_go_from_0_on_in_the_order_of_making(self):
        chest = chest_of(0, 0, 0)
        self.assertEqual([chest.pair(2, 1, 0), chest.pair(0, 2, 1), chest.pair(0, 2, 1)], [0, 1, 2])
        self.assertEqual(chest.pairs(), [(0, 2, 1, 0), (1, 0, 2, 1), (2, 0, 2, 1)])
        self.assertEqual({type(row) for row in chest.pairs()}, {tuple})

    def test_the_same_box_as_home_key_and_value(self):
        chest = chest_of(0, 0)
        chest.pair(1, 1, 1)
        chest.pair(0, 0, 1)
        chest.pair(0, 1, 0)
        chest.pair(1, 0, 0)
        self.assertEqual(chest.pairs(), [(0, 1, 1, 1), (1, 0, 0, 1), (2, 0, 1, 0), (3, 1, 0, 0)])

    def test_boxes_of_a_pair_need_not_be_in_the_hands(self):
        chest = chest_of(0)
        chest.drop(0)
        self.assertEqual(chest.pair(0, 0, 0), 0)
        self.assertEqual(chest.hands(), [])

    def test_an_undone_pair_is_gone_and_its_number_too(self):
        chest = chest_of(0, 0)
        for other in (0, 1, 0):
            chest.pair(1, 1, other)
        self.assertIsNone(chest.unpair(1))
        self.assertEqual(chest.pairs(), [(0, 1, 1, 0), (2, 1, 1, 0)])
        chest.unpair(2)
        self.assertEqual(chest.pair(0, 0, 0), 3)
        self.assertEqual(chest.pairs(), [(0, 1, 1, 0), (3, 0, 0, 0)])

    def test_numbers_go_on_where_all_pairs_are_gone(self):
        chest = chest_of(0)
        chest.unpair(chest.pair(0, 0, 0))
        self.assertEqual(chest.pairs(), [])
        self.assertEqual(chest.pair(0, 0, 0), 1)

    def test_numbers_of_pairs_and_of_boxes_are_apart(self):
        chest = chest_of(0, 0)
        self.assertEqual(chest.pair(0, 0, 0), 0)
        self.assertEqual(chest.make(0), 2)
        self.assertEqual(chest.pair(0, 0, 0), 1)

    def test_60_pairs_at_most(self):
        chest = chest_of(0, 0)
        self.assertEqual([chest.pair(0, 1, 0) for _ in range(60)], list(range(60)))
        self.assert_refused(TooMany, chest, "pair", 0, 1, 0)
        self.assertEqual(len(chest.pairs()), 60)

    def test_60_pairs_at_once_behind_some_that_were_undone(self):
        chest = chest_of(0)
        for _ in range(60):
            chest.pair(0, 0, 0)
        self.assert_refused(TooMany, chest, "pair", 0, 0, 0)
        for pair in (0, 30, 59):
            chest.unpair(pair)
        self.assertEqual([chest.pair(0, 0, 0) for _ in range(3)], [60, 61, 62])
        self.assert_refused(TooMany, chest, "pair", 0, 0, 0)
        numbers = [row[0] for row in chest.pairs()]
        self.assertEqual(numbers, [n for n in range(63) if n not in (0, 30, 59)])

    def test_the_bounds_of_boxes_and_of_pairs_are_apart(self):
        chest = chest_of(*[0] * 60)
        self.assertEqual(chest.pair(59, 59, 59), 0)
        chest = chest_of(0)
        for _ in range(60):
            chest.pair(0, 0, 0)
        self.assertEqual(chest.make(0), 1)

    def test_no_box(self):
        chest = busy_chest()
        for box in (-1, 4, FAR):
            with self.subTest(box):
                self.assert_refused(NoBox, chest, "pair", box, 0, 0)
                self.assert_refused(NoBox, chest, "pair", 0, box, 0)
                self.assert_refused(NoBox, chest, "pair", 0, 0, box)
        self.assertEqual(chest.pair(0, 0, 0), 2)

    def test_a_full_chest_refuses_a_box_that_is_none_as_such(self):
        chest = chest_of(0)
        for _ in range(60):
            chest.pair(0, 0, 0)
        for given in ((1, 0, 0), (0, 1, 0), (0, 0, 1)):
            self.assert_refused(NoBox, chest, "pair", *given)

    def test_no_pair(self):
        chest = busy_chest()
        for pair in (-1, 2, FAR):
            self.assert_refused(NoPair, chest, "unpair", pair)
        chest.unpair(0)
        self.assert_refused(NoPair, chest, "unpair", 0)
        self.assert_refused(NoPair, Chest(), "unpair", 0)


if __name__ == "__main__":
    unittest.main()
