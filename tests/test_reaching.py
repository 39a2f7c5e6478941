"""Points 6 and 7: what is come to, and what is lost."""

import unittest

from lastwill.chests import Chest
from lastwill.reaching import come_to, lost
from tests.helpers import ChestCase, busy_chest, chest_of, chest_with, picture


class ReachCase(ChestCase):
    def assert_is_a_reason(self, chest, why, ahead, box):
        """The why is one of the three forms, and holds with what stands ahead."""
        self.assertIs(type(why), tuple)
        if why[0] == "hand":
            self.assertEqual(why, ("hand",))
            self.assertIn(box, chest.hands())
        elif why[0] == "slot":
            _, other, slot = why
            self.assertIn(other, ahead)
            self.assertEqual(chest.told(other, slot), (box, True))
        else:
            word, number = why
            self.assertEqual(word, "pair")
            rows = {row[0]: row[1:] for row in chest.pairs()}
            home, key, value = rows[number]
            self.assertIn(home, ahead)
            self.assertIn(key, ahead)
            self.assertEqual(value, box)

    def assert_come_to(self, chest, boxes):
        """Just these boxes are come to, each behind what it is come to by; all others are lost."""
        found = come_to(chest)
        self.assertIs(type(found), list)
        ahead = []
        for row in found:
            self.assertIs(type(row), tuple)
            box, why = row
            self.assert_is_a_reason(chest, why, ahead, box)
            ahead.append(box)
        self.assertEqual(sorted(ahead), sorted(boxes))
        self.assertEqual(lost(chest), [box for box in chest.boxes() if box not in boxes])


class Hands(ReachCase):
    def test_an_empty_chest(self):
        self.assertEqual(come_to(Chest()), [])
        self.assertEqual(lost(Chest()), [])

    def test_what_is_in_the_hands_is_come_to(self):
        chest = chest_with([0, 1, 9], hands=[1])
        self.assertEqual(come_to(chest), [(1, ("hand",))])
        self.assertEqual(lost(chest), [0, 2])
        chest.take(2)
        self.assert_come_to(chest, [1, 2])

    def test_all_in_the_hands_and_none(self):
        self.assert_come_to(chest_of(*[0] * 60), list(range(60)))
        chest = chest_with([0] * 60)
        self.assertEqual(come_to(chest), [])
        self.assertEqual(lost(chest), list(range(60)))

    def test_a_will_holds_no_box(self):
        deeds = [("up",), ("down", 1), ("hang", 1, 0, True), ("hang", 0, 0, True)]
        chest = chest_with([1, 1], hands=[0], wills=[(0, deeds), (1, deeds)])
        self.assert_come_to(chest, [0])


class Slots(ReachCase):
    def test_each_slot_holds(self):
        for slot in range(9):
            chest = chest_with([9, 0], hands=[0], holds=[(0, slot, 1)])
            self.assertEqual(come_to(chest), [(0, ("hand",)), (1, ("slot", 0, slot))])

    def test_a_slot_that_looks_holds_nothing(self):
        chest = chest_with([2, 1, 0], hands=[0], looks=[(0, 0, 1), (0, 1, 0)], holds=[(1, 0, 2)])
        self.assert_come_to(chest, [0])
        chest.put(0, 0, 1, True)
        self.assert_come_to(chest, [0, 1, 2])

    def test_slots_that_look_and_hold_the_same_box(self):
        chest = chest_with([2, 0], hands=[0], looks=[(0, 0, 1)], holds=[(0, 1, 1)])
        self.assertEqual(come_to(chest), [(0, ("hand",)), (1, ("slot", 0, 1))])

    def test_a_box_that_is_held_in_several_ways_is_told_once(self):
        chest = chest_with([2, 2, 0], hands=[0, 1, 2], holds=[(0, 0, 2), (0, 1, 1), (1, 0, 2), (1, 1, 0)],
                           pairs=[(0, 1, 2), (0, 0, 2)])
        self.assert_come_to(chest, [0, 1, 2])
        chest.drop(2)
        self.assert_come_to(chest, [0, 1, 2])
        chest.drop(0)
        self.assert_come_to(chest, [0, 1, 2])

    def test_chains_either_way(self):
        rising = [(box, 0, box + 1) for box in range(59)]
        chest = chest_with([1] * 60, hands=[0], holds=rising)
        self.assert_come_to(chest, list(range(60)))
        falling = [(box + 1, 0, box) for box in range(59)]
        chest = chest_with([1] * 60, hands=[59], holds=falling)
        self.assert_come_to(chest, list(range(60)))
        chest.empty(30, 0)
        self.assert_come_to(chest, list(range(30, 60)))

    def test_what_a_lost_box_holds_is_lost(self):
        chest = chest_with([1, 1, 0], hands=[], holds=[(0, 0, 1), (1, 0, 2)])
        self.assert_come_to(chest, [])
        chest.take(1)
        self.assert_come_to(chest, [1, 2])

    def test_a_ring(self):
        ring = [(0, 0, 1), (1, 0, 2), (2, 0, 0)]
        chest = chest_with([1, 1, 1, 0], hands=[0, 1, 2], holds=ring)
        self.assert_come_to(chest, [0, 1, 2])
        chest.drop(0)
        chest.drop(2)
        self.assert_come_to(chest, [0, 1, 2])
        chest.drop(1)
        self.assert_come_to(chest, [])

    def test_a_box_in_its_own_slot(self):
        chest = chest_with([1], hands=[0], holds=[(0, 0, 0)])
        self.assertEqual(come_to(chest), [(0, ("hand",))])
        chest.drop(0)
        self.assertEqual(come_to(chest), [])
        self.assertEqual(lost(chest), [0])


class Pairs(ReachCase):
    def test_a_value_is_come_to_where_home_and_key_are(self):
        chest = chest_with([0, 0, 0], hands=[0, 1], pairs=[(0, 1, 2)])
        self.assertEqual(come_to(chest)[2:], [(2, ("pair", 0))])
        self.assert_come_to(chest, [0, 1, 2])

    def test_home_or_key_alone_is_not_enough(self):
        self.assert_come_to(chest_with([0, 0, 0], hands=[0], pairs=[(0, 1, 2)]), [0])
        self.assert_come_to(chest_with([0, 0, 0], hands=[1], pairs=[(0, 1, 2)]), [1])
        self.assert_come_to(chest_with([0, 0, 0], hands=[], pairs=[(0, 1, 2)]), [])

    def test_a_pair_holds_neither_its_home_nor_its_key(self):
        self.assert_come_to(chest_with([0, 0, 0], hands=[2], pairs=[(0, 1, 2)]), [2])
        self.assert_come_to(chest_with([0, 0, 0], hands=[1, 2], pairs=[(0, 1, 2)]), [1, 2])

    def test_a_pair_whose_home_is_its_key(self):
        self.assert_come_to(chest_with([0, 0], hands=[1], pairs=[(1, 1, 0)]), [0, 1])
        self.assert_come_to(chest_with([0, 0], hands=[0], pairs=[(1, 1, 0)]), [0])

    def test_no_value_is_come_to_by_way_of_itself(self):
        self.assert_come_to(chest_with([0, 0], hands=[0], pairs=[(0, 1, 1)]), [0])
        self.assert_come_to(chest_with([0, 0], hands=[0], pairs=[(1, 0, 1)]), [0])
        self.assert_come_to(chest_with([0, 0], hands=[0], pairs=[(1, 1, 1)]), [0])

    def test_nor_by_way_of_what_it_holds(self):
        chest = chest_with([0, 0, 1], hands=[0], holds=[(2, 0, 1)], pairs=[(0, 1, 2)])
        self.assert_come_to(chest, [0])
        chest.take(1)
        self.assert_come_to(chest, [0, 1, 2])

    def test_nor_by_way_of_each_other(self):
        chest = chest_with([0, 0, 0], hands=[0], pairs=[(0, 1, 2), (0, 2, 1)])
        self.assert_come_to(chest, [0])
        chest.take(2)
        self.assert_come_to(chest, [0, 1, 2])

    def test_a_value_that_is_its_key_and_is_come_to_otherwise(self):
        chest = chest_with([1, 0], hands=[0], holds=[(0, 0, 1)], pairs=[(0, 1, 1)])
        self.assertEqual(come_to(chest), [(0, ("hand",)), (1, ("slot", 0, 0))])

    def test_home_and_key_are_come_to_by_slots(self):
        chest = chest_with([2, 0, 0, 1, 0], hands=[0], holds=[(0, 0, 1), (0, 1, 2), (3, 0, 4)], pairs=[(1, 2, 3)])
        self.assert_come_to(chest, [0, 1, 2, 3, 4])
        chest.put(0, 1, 2, False)
        self.assert_come_to(chest, [0, 1])

    def test_chains_where_the_value_is_the_home_of_the_next(self):
        rows = [(box, 0, box + 1) for box in range(1, 9)]
        self.assert_come_to(chest_with([0] * 10, hands=[0, 1], pairs=rows), list(range(10)))
        self.assert_come_to(chest_with([0] * 10, hands=[0, 1], pairs=rows[::-1]), list(range(10)))
        self.assert_come_to(chest_with([0] * 10, hands=[0, 5], pairs=rows[::-1]), [0, 5, 6, 7, 8, 9])
        self.assert_come_to(chest_with([0] * 10, hands=[1], pairs=rows), [1])

    def test_chains_where_the_value_is_the_key_of_the_next(self):
        rows = [(9, box + 1, box) for box in range(8)]
        self.assert_come_to(chest_with([0] * 10, hands=[8, 9], pairs=rows), list(range(10)))
        self.assert_come_to(chest_with([0] * 10, hands=[8, 9], pairs=rows[::-1]), list(range(10)))
        self.assert_come_to(chest_with([0] * 10, hands=[4, 9], pairs=rows), [0, 1, 2, 3, 4, 9])

    def test_pairs_and_slots_one_behind_the_other(self):
        chest = chest_with([1, 0, 1, 1, 0], hands=[0], holds=[(0, 0, 1), (2, 0, 3), (3, 0, 4)],
                           pairs=[(3, 2, 4), (1, 0, 2)])
        self.assert_come_to(chest, [0, 1, 2, 3, 4])
        chest.unpair(1)
        self.assert_come_to(chest, [0, 1])

    def test_a_pair_is_told_by_its_number(self):
        chest = chest_with([0, 0], hands=[0])
        for _ in range(3):
            chest.pair(0, 0, 1)
        chest.unpair(0)
        chest.unpair(1)
        self.assertEqual(come_to(chest), [(0, ("hand",)), (1, ("pair", 2))])


class Asking(ReachCase):
    def test_nothing_is_changed_by_asking(self):
        chest = busy_chest()
        before = picture(chest)
        come_to(chest)
        lost(chest)
        self.assertEqual(picture(chest), before)

    def test_each_asker_has_a_list_of_his_own(self):
        for question in (come_to, lost):
            chest = chest_with([1, 0, 0], hands=[0], holds=[(0, 0, 1)])
            before = picture(chest)
            first = question(chest)
            kept = list(first)
            self.assertEqual(question(chest), kept)
            first.reverse()
            first.clear()
            self.assertEqual(picture(chest), before)
            self.assertEqual(question(chest), kept)

    def test_a_list_is_not_changed_by_what_is_done_later(self):
        chest = chest_with([1, 0, 0], hands=[0], holds=[(0, 0, 1)])
        reached, missed = come_to(chest), lost(chest)
        chest.empty(0, 0)
        chest.drop(0)
        chest.take(2)
        self.assertEqual(reached, [(0, ("hand",)), (1, ("slot", 0, 0))])
        self.assertEqual(missed, [2])
        self.assert_come_to(chest, [2])


if __name__ == "__main__":
    unittest.main()
