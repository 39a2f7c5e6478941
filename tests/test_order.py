"""Points 8 and 9: steps, elders, and the order of the wills."""

import unittest

from lastwill.chests import Chest
from lastwill.sweeping import order_of_wills, sweep
from tests.helpers import ChestCase, busy_chest, chest_with, picture

# A will by which nothing happens.
IDLE = [("down", 10 ** 9)]


def order_with(many, wills, **parts):
    """The order in a chest with so many boxes of nine slots, of which these have a will."""
    return order_of_wills(chest_with([9] * many, wills=[(box, IDLE) for box in wills], **parts))


class Order(ChestCase):
    def test_nothing_is_lost_or_has_a_will(self):
        self.assertEqual(order_of_wills(Chest()), [])
        self.assertEqual(order_with(3, []), [])
        self.assertEqual(order_with(3, [0, 1, 2], hands=[0, 1, 2]), [])

    def test_only_lost_boxes_that_have_a_will(self):
        self.assertEqual(order_with(5, [0, 1, 3, 4], hands=[0], holds=[(0, 0, 4)]), [1, 3])

    def test_a_taken_back_will_is_none(self):
        chest = chest_with([0, 0], wills=[(0, IDLE), (1, IDLE), (0, [])])
        self.assertEqual(order_of_wills(chest), [1])

    def test_boxes_that_are_apart_go_by_their_numbers(self):
        self.assertEqual(order_with(4, [3, 1, 0, 2]), [0, 1, 2, 3])

    def test_an_elder_goes_ahead(self):
        self.assertEqual(order_with(2, [0, 1], holds=[(1, 8, 0)]), [1, 0])
        self.assertEqual(order_with(3, [0, 1, 2], holds=[(2, 0, 1), (1, 0, 0)]), [2, 1, 0])
        self.assertEqual(order_with(3, [0, 1, 2], holds=[(1, 0, 2), (2, 3, 0)]), [1, 2, 0])

    def test_a_chain_of_60(self):
        self.assertEqual(order_with(60, range(60), holds=[(box + 1, 0, box) for box in range(59)]),
                         list(range(59, -1, -1)))

    def test_a_lost_box_without_a_will_between_two_that_have_one(self):
        self.assertEqual(order_with(3, [0, 2], holds=[(2, 0, 1), (1, 0, 0)]), [2, 0])
        self.assertEqual(order_with(5, [0, 4], holds=[(4, 0, 2), (2, 0, 3), (3, 0, 1), (1, 0, 0)]), [4, 0])

    def test_a_lost_elder_without_a_will_keeps_nobody_back(self):
        self.assertEqual(order_with(3, [0, 1], holds=[(2, 0, 0)]), [0, 1])

    def test_the_least_one_that_may_go_again_and_again(self):
        self.assertEqual(order_with(8, [0, 1, 5, 7], holds=[(5, 0, 0)]), [1, 5, 0, 7])
        self.assertEqual(order_with(6, range(6), holds=[(3, 0, 0), (4, 0, 1), (5, 0, 2)]), [3, 0, 4, 1, 5, 2])
        self.assertEqual(order_with(5, range(5), holds=[(4, 0, 0), (3, 0, 0)]), [1, 2, 3, 4, 0])

    def test_a_slot_that_looks_makes_no_step(self):
        self.assertEqual(order_with(2, [0, 1], looks=[(1, 0, 0)]), [0, 1])
        self.assertEqual(order_with(3, [0, 2], holds=[(2, 0, 1)], looks=[(1, 0, 0)]), [0, 2])

    def test_no_step_goes_to_a_box_that_is_come_to(self):
        # From box 1, if it were lost, one would step to box 0 by the pair.
        self.assertEqual(order_with(4, [0, 2], hands=[1], holds=[(2, 0, 1)], pairs=[(1, 3, 0)]), [0, 2])
        self.assertEqual(order_with(4, [0, 2], hands=[1], holds=[(2, 0, 1)], pairs=[(3, 1, 0)]), [0, 2])
        self.assertEqual(order_with(5, [0, 2], hands=[1], pairs=[(2, 4, 1), (1, 3, 0)]), [0, 2])


class Pairs(ChestCase):
    def test_a_step_from_the_home(self):
        self.assertEqual(order_with(3, [0, 2], pairs=[(2, 1, 0)]), [2, 0])
        self.assertEqual(order_with(3, [0, 2], hands=[1], pairs=[(2, 1, 0)]), [2, 0])

    def test_a_step_from_the_key(self):
        self.assertEqual(order_with(3, [0, 2], pairs=[(1, 2, 0)]), [2, 0])
        self.assertEqual(order_with(3, [0, 2], hands=[1], pairs=[(1, 2, 0)]), [2, 0])

    def test_home_and_key_are_both_elders(self):
        self.assertEqual(order_with(4, [0, 1, 2, 3], pairs=[(3, 2, 0)]), [1, 2, 3, 0])
        self.assertEqual(order_with(2, [0, 1], pairs=[(1, 1, 0)]), [1, 0])

    def test_no_step_from_the_value_nor_between_home_and_key(self):
        self.assertEqual(order_with(3, [0, 1, 2], pairs=[(0, 1, 2)]), [0, 1, 2])
        self.assertEqual(order_with(3, [0, 1, 2], pairs=[(1, 0, 2)]), [0, 1, 2])

    def test_a_pair_and_slots_one_behind_the_other(self):
        self.assertEqual(order_with(5, [0, 4], holds=[(4, 0, 3), (1, 0, 0)], pairs=[(2, 3, 1)]), [4, 0])

    def test_an_undone_pair_makes_no_step(self):
        chest = chest_with([0, 0], pairs=[(1, 1, 0)], wills=[(0, IDLE), (1, IDLE)])
        self.assertEqual(order_of_wills(chest), [1, 0])
        chest.unpair(0)
        self.assertEqual(order_of_wills(chest), [0, 1])


class Rings(ChestCase):
    def test_a_box_that_is_its_own_elder(self):
        self.assertEqual(order_with(2, [0, 1], holds=[(0, 0, 0), (1, 0, 1)]), [0, 1])
        self.assertEqual(order_with(2, [0, 1], holds=[(1, 0, 1), (1, 1, 0)]), [1, 0])
        self.assertEqual(order_with(2, [0, 1], pairs=[(0, 1, 0)]), [1, 0])
        self.assertEqual(order_with(1, [0], pairs=[(0, 0, 0)]), [0])

    def test_a_ring_goes_by_numbers(self):
        self.assertEqual(order_with(3, [0, 1, 2], holds=[(0, 0, 2), (2, 0, 1), (1, 0, 0)]), [0, 1, 2])
        self.assertEqual(order_with(3, [1, 2], holds=[(0, 0, 2), (2, 0, 1), (1, 0, 0)]), [1, 2])

    def test_a_ring_of_pairs(self):
        self.assertEqual(order_with(3, [0, 1], pairs=[(0, 2, 1), (2, 1, 0)]), [0, 1])

    def test_a_ring_in_the_reach_of_a_box(self):
        self.assertEqual(order_with(6, [1, 2, 5], holds=[(1, 0, 2), (2, 0, 1), (5, 0, 2)]), [5, 1, 2])

    def test_a_box_in_the_reach_of_a_ring(self):
        self.assertEqual(order_with(6, [0, 4, 5], holds=[(4, 0, 5), (5, 0, 4), (5, 1, 0)]), [4, 5, 0])

    def test_a_ring_in_the_reach_of_another_ring(self):
        self.assertEqual(order_with(4, range(4), holds=[(0, 0, 1), (1, 0, 0), (2, 0, 3), (3, 0, 2), (3, 1, 1)]),
                         [2, 3, 0, 1])
        self.assertEqual(order_with(4, range(4), holds=[(0, 0, 3), (3, 0, 0), (1, 0, 2), (2, 0, 1), (1, 1, 3)]),
                         [1, 2, 0, 3])

    def test_other_boxes_go_between_those_of_a_ring(self):
        self.assertEqual(order_with(7, [1, 3, 6], holds=[(1, 0, 6), (6, 0, 1)]), [1, 3, 6])

    def test_a_box_of_a_ring_without_a_will(self):
        self.assertEqual(order_with(4, [0, 3], holds=[(1, 0, 2), (2, 0, 1), (3, 0, 1), (2, 1, 0)]), [3, 0])


class Asking(ChestCase):
    def test_nothing_is_done_by_asking(self):
        chest = chest_with([1, 1], wills=[(0, [("up",)]), (1, [("hang", 0, 0, True)])])
        before = picture(chest)
        self.assertEqual(order_of_wills(chest), [0, 1])
        self.assertEqual(order_of_wills(chest), [0, 1])
        self.assertEqual(picture(chest), before)
        chest = busy_chest()
        before = picture(chest)
        order_of_wills(chest)
        self.assertEqual(picture(chest), before)

    def test_each_asker_has_a_list_of_his_own(self):
        chest = chest_with([0, 0], wills=[(0, IDLE), (1, IDLE)])
        order = order_of_wills(chest)
        self.assertIs(type(order), list)
        order.reverse()
        self.assertEqual(order_of_wills(chest), [0, 1])
        chest.bequeath(0, [])
        sweep(chest)
        self.assertEqual(order, [1, 0])


if __name__ == "__main__":
    unittest.main()
