"""Point 12, and the first sentence of point 13: what is written, and that it is read to a chest that goes on alike."""

import unittest

from lastwill.chests import Chest
from lastwill.errors import TooMany, WillError
from lastwill.notes import read, written
from lastwill.reaching import come_to, lost
from lastwill.sweeping import order_of_wills, sweep
from tests.helpers import ChestCase, busy_chest, chest_of, chest_with, picture

NINE = 999999999


def text_of(*rows):
    return "\n".join(rows)


class Written(ChestCase):
    def test_a_chest_without_boxes(self):
        self.assertEqual(written(Chest()), "next 0 0")

    def test_boxes_in_the_hands_and_free_ones(self):
        self.assertEqual(written(chest_with([0, 9, 3], hands=[1])),
                         text_of("next 3 0", "box 0 0 free", "box 1 9 hand", "box 2 3 free"))

    def test_slots_that_are_not_empty(self):
        chest = chest_with([3, 9], hands=[0, 1], holds=[(1, 8, 0), (0, 2, 0), (1, 0, 1)], looks=[(0, 0, 1), (1, 3, 1)])
        self.assertEqual(written(chest), text_of(
            "next 2 0", "box 0 3 hand", "box 1 9 hand", "slot 0 0 1 looks", "slot 0 2 0 holds", "slot 1 0 1 holds",
            "slot 1 3 1 looks", "slot 1 8 0 holds"))

    def test_pairs(self):
        chest = chest_with([0, 0, 0], hands=[0], pairs=[(2, 1, 0), (0, 0, 0), (0, 1, 2)])
        chest.unpair(1)
        self.assertEqual(written(chest), text_of(
            "next 3 3", "box 0 0 hand", "box 1 0 free", "box 2 0 free", "pair 0 2 1 0", "pair 2 0 1 2"))

    def test_wills(self):
        deeds = [("hang", 0, 7, True), ("up",), ("down", 12), ("hang", 30, 0, False), ("up",)]
        chest = chest_with([0, 0, 0], hands=[0, 1, 2], wills=[(2, deeds), (0, [("down", 0)])])
        self.assertEqual(written(chest), text_of(
            "next 3 0", "box 0 0 hand", "box 1 0 hand", "box 2 0 hand", "will 0 down 0",
            "will 2 hang 0 7 holds up down 12 hang 30 0 looks up"))

    def test_each_kind_of_row(self):
        self.assertEqual(written(busy_chest()), text_of(
            "next 4 2", "box 0 0 hand", "box 1 1 hand", "box 2 9 free", "box 3 3 hand", "slot 1 0 2 holds",
            "slot 2 8 1 looks", "slot 3 1 3 holds", "pair 0 0 1 2", "pair 1 3 3 3", "will 1 up down 3 hang 2 4 holds"))

    def test_numbers_of_two_figures_stand_behind_those_of_one(self):
        chest = chest_of(*[1] * 12)
        for box in range(12):
            chest.put(box, 0, box, True)
            chest.pair(box, box, box)
            chest.bequeath(box, [("up",)])
        rows = ["next 12 12"]
        rows += [f"box {box} 1 hand" for box in range(12)]
        rows += [f"slot {box} 0 {box} holds" for box in range(12)]
        rows += [f"pair {box} {box} {box} {box}" for box in range(12)]
        rows += [f"will {box} up" for box in range(12)]
        self.assertEqual(written(chest), text_of(*rows))

    def test_behind_a_sweep(self):
        chest = chest_with([1, 0, 1], hands=[2], holds=[(0, 0, 1)], looks=[(2, 0, 1)], pairs=[(2, 2, 2), (2, 1, 2)],
                           wills=[(0, [("down", 2)])])
        chest.take(0)
        chest.drop(0)
        sweep(chest)
        self.assertEqual(written(chest), text_of("next 3 2", "box 2 1 free", "pair 0 2 2 2"))
        sweep(chest)
        self.assertEqual(written(chest), "next 3 2")

    def test_a_spent_and_a_taken_back_will_are_not_written(self):
        chest = chest_with([0, 0], wills=[(0, [("up",)]), (1, [("up",)]), (1, [])])
        sweep(chest)
        self.assertEqual(written(chest), text_of("next 2 0", "box 0 0 hand"))

    def test_nothing_is_changed_by_writing(self):
        chest = busy_chest()
        before = picture(chest)
        self.assertEqual(written(chest), written(chest))
        self.assertEqual(picture(chest), before)


class ReadAgain(ChestCase):
    def assert_read_again(self, chest):
        """What is written is read to a chest that tells all alike, and that is written alike."""
        text = written(chest)
        again = read(text)
        self.assertIs(type(again), Chest)
        self.assertEqual(picture(again), picture(chest))
        self.assertEqual(written(again), text)
        self.assertEqual(lost(again), lost(chest))
        self.assertEqual(sorted(dict(come_to(again))), sorted(dict(come_to(chest))))
        self.assertEqual(order_of_wills(again), order_of_wills(chest))
        return again

    def done(self, deed, chest):
        """What the deed gives, or the class of the refusal."""
        try:
            return deed(chest)
        except WillError as refusal:
            return type(refusal)

    def assert_goes_on_alike(self, chest):
        again = self.assert_read_again(chest)
        for deed in (lambda each: each.make(9), lambda each: each.pair(each.boxes()[-1], each.boxes()[-1], 0),
                     lambda each: each.put(each.boxes()[-1], 8, each.boxes()[0], True),
                     lambda each: each.drop(each.boxes()[-1])):
            self.assertEqual(self.done(deed, again), self.done(deed, chest))
            self.assertEqual(picture(again), picture(chest))
        self.assertEqual(written(again), written(chest))
        for _ in range(3):
            self.assertEqual(sweep(again), sweep(chest))
            self.assertEqual(picture(again), picture(chest))
            self.assertEqual(written(again), written(chest))

    def test_a_chest_without_boxes(self):
        self.assert_goes_on_alike(Chest())

    def test_a_chest_with_one_box(self):
        self.assert_goes_on_alike(chest_of(0))
        self.assert_goes_on_alike(chest_with([9], holds=[(0, slot, 0) for slot in range(9)],
                                             wills=[(0, [("hang", 0, 3, False), ("up",)])]))

    def test_each_size(self):
        self.assert_goes_on_alike(chest_with(list(range(10)), hands=[0, 3, 9]))

    def test_each_kind_of_row(self):
        self.assert_goes_on_alike(busy_chest())

    def test_60_boxes_and_60_pairs_and_wills_of_nine_deeds(self):
        deeds = [("up",), ("down", NINE), ("hang", NINE, NINE, True), ("hang", 0, 0, False)] * 2 + [("down", 3)]
        chest = chest_with([9] * 60, hands=[5], holds=[(box, slot, slot) for box in range(60) for slot in range(9)],
                           pairs=[(box, 59 - box, 7) for box in range(60)], wills=[(box, deeds) for box in range(60)])
        again = self.assert_read_again(chest)
        self.assert_refused(TooMany, again, "make", 0)
        self.assert_refused(TooMany, again, "pair", 0, 0, 0)
        self.assertEqual(sweep(again), sweep(chest))
        self.assertEqual(written(again), written(chest))

    def test_numbers_go_on_where_the_last_boxes_and_pairs_are_gone(self):
        chest = chest_with([0, 0, 0], hands=[0], pairs=[(0, 0, 0), (0, 0, 0)])
        chest.unpair(1)
        sweep(chest)
        again = self.assert_read_again(chest)
        self.assertEqual(again.make(0), 3)
        self.assertEqual(again.pair(0, 0, 0), 2)
        self.assertEqual(again.pairs(), [(0, 0, 0, 0), (2, 0, 0, 0)])

    def test_a_chest_that_was_emptied(self):
        chest = chest_with([0, 0], pairs=[(0, 0, 1)])
        sweep(chest)
        self.assertEqual(written(chest), "next 2 1")
        self.assert_goes_on_alike(chest)

    def test_deeds_are_read_as_tuples(self):
        deeds = [("up",), ("down", 7), ("hang", 5, 60, True), ("hang", 0, 0, False)]
        will = read(written(chest_with([0], wills=[(0, deeds)]))).will(0)
        self.assertEqual(will, deeds)
        self.assertEqual({type(deed) for deed in will}, {tuple})
        self.assertIs(will[2][3], True)
        self.assertIs(will[3][3], False)

    def test_slots_are_read_as_they_were(self):
        again = read(written(chest_with([2], holds=[(0, 0, 0)], looks=[(0, 1, 0)])))
        self.assertIs(again.told(0, 0)[1], True)
        self.assertIs(again.told(0, 1)[1], False)

    def test_what_was_read_is_a_chest_of_its_own(self):
        chest = busy_chest()
        again = read(written(chest))
        before = picture(chest)
        again.put(1, 0, 1, False)
        again.drop(0)
        again.bequeath(1, [])
        again.unpair(0)
        self.assertEqual(picture(chest), before)


if __name__ == "__main__":
    unittest.main()
