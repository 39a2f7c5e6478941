"""Points 10 and 11: sweeps, and with them what each deed of point 5 does."""

import unittest

from lastwill.chests import Chest
from lastwill.errors import NoBox, TooMany
from lastwill.reaching import come_to, lost
from lastwill.sweeping import order_of_wills, sweep
from tests.helpers import ChestCase, busy_chest, chest_of, chest_with, picture

FAR = 10 ** 5000
IDLE = [("down", 10 ** 9)]


class GivenUp(ChestCase):
    def test_nothing_is_lost(self):
        self.assertEqual(sweep(Chest()), ([], [], []))
        chest = chest_with([2, 0], hands=[0], holds=[(0, 0, 1)], looks=[(0, 1, 1)], pairs=[(0, 1, 1)],
                           wills=[(0, IDLE), (1, [("down", 0)])])
        before = picture(chest)
        self.assertEqual(sweep(chest), ([], [], []))
        self.assertEqual(picture(chest), before)

    def test_a_tuple_of_three_lists(self):
        for chest in (Chest(), busy_chest(), chest_with([0])):
            told = sweep(chest)
            self.assertIs(type(told), tuple)
            self.assertEqual([type(part) for part in told], [list, list, list])

    def test_what_is_lost_is_given_up(self):
        chest = chest_with([1, 0, 0, 9], hands=[0], holds=[(0, 0, 2), (3, 4, 2)])
        self.assertEqual(sweep(chest), ([], [1, 3], []))
        self.assertEqual(chest.boxes(), [0, 2])
        self.assert_no_box(chest, 1)
        self.assert_no_box(chest, 3)
        self.assertEqual(chest.hands(), [0])
        self.assertEqual(chest.told(0, 0), (2, True))

    def test_all_are_given_up(self):
        self.assertEqual(sweep(chest_with([0] * 60)), ([], list(range(60)), []))
        chest = chest_with([1, 1, 1], holds=[(0, 0, 1), (1, 0, 2), (2, 0, 0)], pairs=[(0, 1, 2)])
        self.assertEqual(sweep(chest), ([], [0, 1, 2], []))
        self.assertEqual(picture(chest), picture(Chest()))

    def test_what_is_come_to_is_not_given_up(self):
        chest = chest_with([1, 0, 0, 1], hands=[0, 1], holds=[(0, 0, 3)], pairs=[(3, 1, 2)])
        self.assertEqual(sweep(chest), ([], [], []))
        self.assertEqual(chest.boxes(), [0, 1, 2, 3])

    def test_a_slot_that_looked_at_it_is_empty(self):
        chest = chest_with([3, 0, 0], hands=[0], looks=[(0, 0, 1), (0, 1, 2), (0, 2, 0)])
        chest.take(2)
        self.assertEqual(sweep(chest), ([], [1], []))
        self.assertEqual([chest.told(0, slot) for slot in range(3)], [None, (2, False), (0, False)])

    def test_a_slot_that_held_it_is_empty_in_a_box_that_stays(self):
        chest = chest_with([2, 0], hands=[0], wills=[(1, [("hang", 0, 0, True), ("hang", 0, 1, False), ("down", 0)])])
        self.assertEqual(sweep(chest), ([1], [1], []))
        self.assertEqual(chest.boxes(), [0])
        self.assertEqual([chest.told(0, 0), chest.told(0, 1)], [None, None])
        self.assertEqual(sweep(chest), ([], [0], []))

    def test_pairs_whose_home_or_key_it_is_go(self):
        rows = [(2, 0, 0), (0, 2, 0), (2, 2, 2), (0, 1, 0), (1, 1, 1), (2, 1, 2), (0, 2, 2)]
        chest = chest_with([0, 0, 0], hands=[0, 1], pairs=rows)
        self.assertEqual(sweep(chest), ([], [2], []))
        self.assertEqual(chest.pairs(), [(3, 0, 1, 0), (4, 1, 1, 1)])

    def test_a_pair_whose_value_it_is_goes(self):
        # The key takes itself up and drops the home, which was come to ahead: both stay, and the value does not.
        chest = chest_with([0, 0, 0], hands=[0], pairs=[(0, 1, 2), (0, 1, 0)], wills=[(1, [("up",), ("down", 0)])])
        self.assertEqual(sweep(chest), ([1], [2], [1]))
        self.assertEqual(chest.boxes(), [0, 1])
        self.assertEqual(chest.pairs(), [(1, 0, 1, 0)])

    def test_a_will_that_names_it_stays_as_it_is(self):
        deeds = [("down", 1), ("hang", 1, 0, True)]
        chest = chest_with([1, 1], hands=[0], wills=[(0, deeds)])
        self.assertEqual(sweep(chest), ([], [1], []))
        self.assertEqual(chest.will(0), deeds)
        chest.drop(0)
        self.assertEqual(sweep(chest), ([0], [0], []))

    def test_a_box_given_up_is_refused_everywhere(self):
        chest = chest_with([1, 1], hands=[0])
        sweep(chest)
        for method, *given in (("put", 1, 0, 0, True), ("put", 0, 0, 1, True), ("empty", 1, 0), ("told", 1, 0),
                               ("pair", 1, 0, 0), ("pair", 0, 1, 0), ("pair", 0, 0, 1), ("bequeath", 1, IDLE)):
            self.assert_refused(NoBox, chest, method, *given)


class Numbers(ChestCase):
    def test_numbers_of_boxes_never_come_twice(self):
        chest = chest_with([0, 0, 0], hands=[0])
        self.assertEqual(sweep(chest)[1], [1, 2])
        self.assertEqual(chest.make(3), 3)
        self.assertEqual(chest.boxes(), [0, 3])
        self.assertEqual(chest.size(3), 3)
        for box in (0, 3):
            chest.drop(box)
        self.assertEqual(sweep(chest)[1], [0, 3])
        self.assertEqual(chest.make(0), 4)
        self.assertEqual(chest.boxes(), [4])

    def test_a_new_box_is_told_nowhere(self):
        chest = chest_with([1, 0], hands=[0], looks=[(0, 0, 1)], wills=[(1, IDLE)])
        sweep(chest)
        self.assertEqual(chest.make(2), 2)
        self.assertEqual(chest.will(2), [])
        self.assertEqual([chest.told(2, 0), chest.told(2, 1), chest.told(0, 0)], [None, None, None])
        self.assertEqual(chest.hands(), [0, 2])

    def test_numbers_of_pairs_never_come_twice(self):
        chest = chest_with([0, 0], hands=[0], pairs=[(0, 0, 0), (0, 0, 1), (1, 0, 0)])
        chest.drop(0)
        chest.bequeath(0, [("up",)])
        chest.unpair(1)
        self.assertEqual(sweep(chest), ([0], [1], [0]))
        self.assertEqual(chest.pairs(), [(0, 0, 0, 0)])
        self.assertEqual(chest.pair(0, 0, 0), 3)

    def test_there_is_room_for_as_many_boxes_as_were_given_up(self):
        chest = chest_of(*[0] * 60)
        self.assert_refused(TooMany, chest, "make", 0)
        for box in range(0, 60, 3):
            chest.drop(box)
        self.assertEqual(sweep(chest), ([], list(range(0, 60, 3)), []))
        self.assertEqual([chest.make(0) for _ in range(20)], list(range(60, 80)))
        self.assert_refused(TooMany, chest, "make", 0)

    def test_there_is_room_for_as_many_pairs_as_went(self):
        chest = chest_with([0, 0], hands=[0], pairs=[(0, 0, 0)] * 50 + [(1, 0, 0)] * 10)
        self.assert_refused(TooMany, chest, "pair", 0, 0, 0)
        sweep(chest)
        self.assertEqual([chest.pair(0, 0, 0) for _ in range(10)], list(range(60, 70)))
        self.assert_refused(TooMany, chest, "pair", 0, 0, 0)


class Up(ChestCase):
    def test_a_box_takes_itself_up(self):
        chest = chest_with([0], wills=[(0, [("up",)])])
        self.assertEqual(sweep(chest), ([0], [], [0]))
        self.assertEqual(chest.hands(), [0])
        self.assertEqual(chest.will(0), [])

    def test_twice_up_is_dropped_once(self):
        chest = chest_with([0], wills=[(0, [("up",), ("up",)])])
        self.assertEqual(sweep(chest), ([0], [], [0]))
        chest.drop(0)
        self.assertEqual(chest.hands(), [])

    def test_what_it_holds_stays_too(self):
        chest = chest_with([1, 1, 0, 0, 0], holds=[(1, 0, 0), (0, 0, 2)], pairs=[(1, 2, 4)], wills=[(1, [("up",)])])
        self.assertEqual(sweep(chest), ([1], [3], [0, 1, 2, 4]))
        self.assertEqual(chest.boxes(), [0, 1, 2, 4])
        self.assertEqual(chest.hands(), [1])
        self.assertEqual(chest.told(1, 0), (0, True))
        self.assertEqual(chest.pairs(), [(0, 1, 2, 4)])

    def test_what_it_looks_at_does_not(self):
        chest = chest_with([1, 0], looks=[(0, 0, 1)], wills=[(0, [("up",)])])
        self.assertEqual(sweep(chest), ([0], [1], [0]))
        self.assertIsNone(chest.told(0, 0))


class Down(ChestCase):
    def test_another_box_is_dropped_and_stays_till_the_next_sweep(self):
        chest = chest_with([1, 0, 0], hands=[0], holds=[(0, 0, 1)], wills=[(2, [("down", 0)])])
        self.assertEqual(sweep(chest), ([2], [2], []))
        self.assertEqual(chest.boxes(), [0, 1])
        self.assertEqual(chest.hands(), [])
        self.assertEqual(lost(chest), [0, 1])
        self.assertEqual(sweep(chest), ([], [0, 1], []))
        self.assertEqual(chest.boxes(), [])

    def test_the_will_of_a_box_that_became_lost_is_done_in_the_next_sweep(self):
        chest = chest_with([0, 0], hands=[0], wills=[(0, [("up",)]), (1, [("down", 0)])])
        self.assertEqual(sweep(chest), ([1], [1], []))
        self.assertEqual(chest.will(0), [("up",)])
        self.assertEqual(chest.hands(), [])
        self.assertEqual(sweep(chest), ([0], [], [0]))
        self.assertEqual(chest.hands(), [0])
        self.assertEqual(chest.will(0), [])

    def test_in_turn_with_up(self):
        chest = chest_with([0, 0], wills=[(0, [("up",), ("down", 0)]), (1, [("down", 1), ("up",)])])
        self.assertEqual(sweep(chest), ([0, 1], [0], [1]))
        self.assertEqual(chest.hands(), [1])

    def test_a_box_that_is_not_in_the_hands(self):
        chest = chest_with([1, 0, 0], hands=[0], holds=[(0, 0, 1)],
                           wills=[(2, [("down", 2), ("down", 1), ("up",)])])
        self.assertEqual(sweep(chest), ([2], [], [2]))
        self.assertEqual(chest.hands(), [0, 2])

    def test_a_box_that_there_is_not(self):
        chest = chest_with([0, 0], hands=[0], wills=[(1, [("down", 2), ("down", FAR), ("up",)])])
        self.assertEqual(sweep(chest), ([1], [], [1]))
        self.assertEqual(chest.hands(), [0, 1])

    def test_a_late_will_undoes_an_early_one(self):
        chest = chest_with([0, 0], wills=[(0, [("up",)]), (1, [("down", 0)])])
        self.assertEqual(sweep(chest), ([0, 1], [0, 1], []))
        chest = chest_with([0, 0], wills=[(0, [("down", 1)]), (1, [("up",)])])
        self.assertEqual(sweep(chest), ([0, 1], [0], [1]))
        chest = chest_with([0, 1], holds=[(1, 0, 0)], wills=[(0, [("down", 1)]), (1, [("up",)])])
        self.assertEqual(sweep(chest), ([1, 0], [0, 1], []))


class Hang(ChestCase):
    def test_a_slot_that_holds_the_box_now(self):
        chest = chest_with([9, 0], hands=[0], wills=[(1, [("hang", 0, 8, True)])])
        self.assertEqual(sweep(chest), ([1], [], [1]))
        self.assertEqual(chest.told(0, 8), (1, True))
        self.assertEqual([chest.told(0, slot) for slot in range(8)], [None] * 8)
        self.assertEqual(chest.hands(), [0])
        self.assertEqual(come_to(chest)[1:], [(1, ("slot", 0, 8))])

    def test_a_slot_that_only_looks_at_it(self):
        chest = chest_with([1, 0], hands=[0], wills=[(1, [("hang", 0, 0, False)])])
        self.assertEqual(sweep(chest), ([1], [1], []))
        self.assertIsNone(chest.told(0, 0))
        chest = chest_with([1, 0], hands=[0], wills=[(1, [("hang", 0, 0, False), ("up",)])])
        self.assertEqual(sweep(chest), ([1], [], [1]))
        self.assertEqual(chest.told(0, 0), (1, False))
        self.assertIs(chest.told(0, 0)[1], False)

    def test_the_slot_tells_no_more_what_it_told(self):
        chest = chest_with([1, 0, 0], hands=[0], holds=[(0, 0, 1)], wills=[(2, [("hang", 0, 0, True)])])
        self.assertEqual(sweep(chest), ([2], [], [2]))
        self.assertEqual(chest.told(0, 0), (2, True))
        self.assertEqual(chest.boxes(), [0, 1, 2])
        self.assertEqual(sweep(chest), ([], [1], []))

    def test_of_two_wills_for_one_slot_the_late_one(self):
        chest = chest_with([1, 0, 0], hands=[0], wills=[(1, [("hang", 0, 0, True)]), (2, [("hang", 0, 0, True)])])
        self.assertEqual(sweep(chest), ([1, 2], [1], [2]))
        self.assertEqual(chest.told(0, 0), (2, True))
        chest = chest_with([1, 0, 0], hands=[0], wills=[(1, [("hang", 0, 0, True)]), (2, [("hang", 0, 0, False)])])
        self.assertEqual(sweep(chest), ([1, 2], [1, 2], []))
        self.assertIsNone(chest.told(0, 0))

    def test_in_turn(self):
        deeds = [("hang", 0, 0, True), ("hang", 0, 0, False), ("hang", 0, 1, False), ("hang", 0, 1, True)]
        chest = chest_with([2, 0], hands=[0], wills=[(1, deeds)])
        self.assertEqual(sweep(chest), ([1], [], [1]))
        self.assertEqual([chest.told(0, 0), chest.told(0, 1)], [(1, False), (1, True)])

    def test_a_box_or_a_slot_that_there_is_not(self):
        for other, slot in ((0, 2), (0, FAR), (1, 0), (2, 0), (3, 0), (FAR, 0), (FAR, FAR)):
            chest = chest_with([2, 0], hands=[0], looks=[(0, 0, 0), (0, 1, 0)],
                               wills=[(1, [("hang", other, slot, True)])])
            self.assertEqual(sweep(chest), ([1], [1], []))
            self.assertEqual([chest.told(0, 0), chest.told(0, 1)], [(0, False), (0, False)])

    def test_deeds_behind_one_that_does_nothing_are_done(self):
        chest = chest_with([1, 0], hands=[0], wills=[(1, [("hang", 0, 1, True), ("hang", 5, 0, True), ("up",)])])
        self.assertEqual(sweep(chest), ([1], [], [1]))

    def test_a_slot_of_its_own(self):
        chest = chest_with([1], wills=[(0, [("hang", 0, 0, True)])])
        self.assertEqual(sweep(chest), ([0], [0], []))
        chest = chest_with([1], wills=[(0, [("hang", 0, 0, True), ("up",)])])
        self.assertEqual(sweep(chest), ([0], [], [0]))
        self.assertEqual(chest.told(0, 0), (0, True))

    def test_a_slot_of_a_lost_box(self):
        chest = chest_with([1, 0], wills=[(1, [("hang", 0, 0, True)])])
        self.assertEqual(sweep(chest), ([1], [0, 1], []))
        chest = chest_with([1, 0], wills=[(0, [("up",)]), (1, [("hang", 0, 0, True)])])
        self.assertEqual(sweep(chest), ([0, 1], [], [0, 1]))

    def test_a_box_that_becomes_the_key_of_a_pair_that_holds(self):
        chest = chest_with([1, 0, 0], hands=[0], pairs=[(0, 1, 2)], wills=[(1, [("hang", 0, 0, True)])])
        self.assertEqual(sweep(chest), ([1], [], [1, 2]))
        self.assertEqual(chest.pairs(), [(0, 0, 1, 2)])


class Spent(ChestCase):
    def test_a_will_is_done_once(self):
        chest = chest_with([0], wills=[(0, [("up",)])])
        sweep(chest)
        chest.drop(0)
        self.assertEqual(order_of_wills(chest), [])
        self.assertEqual(sweep(chest), ([], [0], []))

    def test_another_will_may_be_given(self):
        chest = chest_with([0], wills=[(0, [("up",)])])
        sweep(chest)
        chest.bequeath(0, [("up",), ("up",)])
        self.assertEqual(chest.will(0), [("up",), ("up",)])
        chest.drop(0)
        self.assertEqual(sweep(chest), ([0], [], [0]))

    def test_wills_of_boxes_that_others_keep_are_spent_all_the_same(self):
        chest = chest_with([1, 0, 0], hands=[], holds=[(0, 0, 1)],
                           wills=[(0, [("up",)]), (1, IDLE), (2, [("hang", 0, 0, True)])])
        self.assertEqual(sweep(chest), ([0, 1, 2], [1], [0, 2]))
        chest = chest_with([1, 0], holds=[(0, 0, 1)], wills=[(0, [("up",)]), (1, [("down", 5)])])
        self.assertEqual(sweep(chest), ([0, 1], [], [0, 1]))
        self.assertEqual([chest.will(0), chest.will(1)], [[], []])

    def test_the_wills_are_those_of_the_beginning(self):
        # Box 1 is come to by the will of box 0, and its will is done all the same; it is not done for box 2.
        chest = chest_with([1, 0, 0], hands=[2], holds=[(0, 0, 1)],
                           wills=[(0, [("up",)]), (1, [("down", 2), ("down", 0)]), (2, [("up",)])])
        self.assertEqual(sweep(chest), ([0, 1], [0, 1], []))
        self.assertEqual(chest.boxes(), [2])
        self.assertEqual(chest.will(2), [("up",)])

    def test_the_order_is_that_of_the_beginning(self):
        # By the first will box 2 would become an elder of box 1.
        chest = chest_with([0, 0, 1], wills=[(0, [("hang", 2, 0, True)]), (1, [("hang", 2, 0, True)]), (2, IDLE)])
        self.assertEqual(order_of_wills(chest), [0, 1, 2])
        self.assertEqual(sweep(chest)[0], [0, 1, 2])
        # By the first will box 2 is no elder of box 1 any more.
        chest = chest_with([0, 0, 1], holds=[(2, 0, 1)], wills=[(0, [("hang", 2, 0, True)]), (1, IDLE), (2, IDLE)])
        self.assertEqual(sweep(chest)[0], [0, 2, 1])

    def test_it_does_the_wills_in_the_order_that_is_told(self):
        ring = [(3, 0, 4), (4, 0, 3), (4, 1, 0)]
        chest = chest_with([1, 1, 1, 2, 2], holds=ring, wills=[(box, IDLE) for box in range(5)])
        order = order_of_wills(chest)
        self.assertEqual(order, [1, 2, 3, 4, 0])
        self.assertEqual(sweep(chest), (order, [0, 1, 2, 3, 4], []))


class Again(ChestCase):
    def test_a_second_sweep_at_once_finds_nothing(self):
        chest = chest_with([2, 1, 0, 0], hands=[0], holds=[(1, 0, 2)], looks=[(0, 0, 1)], pairs=[(0, 3, 2)],
                           wills=[(1, [("hang", 0, 1, True)]), (3, IDLE)])
        self.assertEqual(sweep(chest), ([1, 3], [3], [1, 2]))
        before = picture(chest)
        self.assertEqual(sweep(chest), ([], [], []))
        self.assertEqual(picture(chest), before)

    def test_no_box_that_is_come_to_is_given_up_in_a_long_run(self):
        chest = chest_with([1] * 10, hands=[0], holds=[(box, 0, box + 1) for box in range(9)])
        for box in range(9, 0, -1):
            chest.empty(box - 1, 0)
            self.assertEqual(sweep(chest), ([], [box], []))
        self.assertEqual(chest.boxes(), [0])


class Lists(ChestCase):
    def test_the_lists_are_the_askers_own(self):
        chest = chest_with([1, 0, 0], hands=[], wills=[(0, [("up",)]), (1, IDLE)])
        told = sweep(chest)
        self.assertEqual(told, ([0, 1], [1, 2], [0]))
        before = picture(chest)
        for part in told:
            part.append(7)
            part.reverse()
        self.assertEqual(picture(chest), before)
        chest.drop(0)
        self.assertEqual(sweep(chest), ([], [0], []))
        self.assertEqual(told, ([7, 1, 0], [7, 2, 1], [7, 0]))

    def test_lists_of_earlier_are_not_changed_by_a_sweep(self):
        chest = chest_with([1, 1, 0], hands=[0], looks=[(0, 0, 2)], pairs=[(0, 0, 2), (0, 0, 0)],
                           wills=[(1, [("hang", 0, 0, True), ("up",)])])
        chest.unpair(0)
        deeds = [("hang", 0, 0, True), ("up",)]
        chest.bequeath(1, deeds)
        asked = [chest.boxes(), chest.hands(), chest.pairs(), chest.will(1), come_to(chest), lost(chest),
                 order_of_wills(chest)]
        kept = [list(told) for told in asked]
        slot = chest.told(0, 0)
        self.assertEqual(sweep(chest), ([1], [2], [1]))
        self.assertEqual(asked, kept)
        self.assertEqual(deeds, [("hang", 0, 0, True), ("up",)])
        self.assertEqual(slot, (2, False))

    def test_other_chests_are_not_touched(self):
        one, two = chest_with([1, 0], wills=[(0, [("up",)])]), chest_with([1, 0], wills=[(0, [("up",)])])
        before = picture(two)
        sweep(one)
        self.assertEqual(picture(two), before)


if __name__ == "__main__":
    unittest.main()
