"""Chests by the hundred, made by a fixed row of chances, beside the model in tests/model.py."""

import random
import unittest

from lastwill.errors import NoText
from lastwill.notes import read, written
from lastwill.reaching import come_to, lost
from lastwill.sweeping import order_of_wills, sweep
from tests import model
from tests.helpers import chest_of, picture


def some_deed(chance, many):
    number = chance.randrange(many + 1)
    return chance.choice([
        ("up",), ("down", number), ("hang", number, chance.randrange(3), chance.random() < 0.7),
        ("hang", number, chance.randrange(3), True),
    ])


def some_chest(chance):
    """A chest of a few boxes with slots, pairs and wills as chance has it."""
    many = chance.randrange(1, 10)
    chest = chest_of(*[chance.randrange(4) for _ in range(many)])
    for box in chest.boxes():
        for slot in range(chest.size(box)):
            if chance.random() < 0.5:
                chest.put(box, slot, chance.randrange(many), chance.random() < 0.8)
        if chance.random() < 0.8:
            chest.drop(box)
        if chance.random() < 0.6:
            chest.bequeath(box, [some_deed(chance, many) for _ in range(chance.randrange(1, 4))])
    for _ in range(chance.randrange(5)):
        chest.pair(*[chance.randrange(many) for _ in range(3)])
    if chest.pairs() and chance.random() < 0.3:
        chest.unpair(0)
    return chest


def some_change(chance, text):
    """The text with a change or two, such that it often is still that of a chest."""
    rows = text.split("\n")
    for _ in range(chance.choice([1, 1, 2])):
        at = chance.randrange(len(rows))
        words = rows[at].split(" ")
        spot = chance.randrange(len(words))
        kind = chance.randrange(9)
        if kind < 6 and words[spot].isdigit():
            words[spot] = chance.choice(["0", "1", "2", "3", "9", "12", "01"])
        elif kind < 3:
            words[spot] = chance.choice(["hand", "free", "holds", "looks", "up"])
        elif kind == 6:
            del words[spot]
        elif kind == 7:
            words.insert(spot, chance.choice(["up", "0", "down 1", "", "hang 0 0 looks"]))
        rows[at] = " ".join(words)
        if kind == 8:
            rows.insert(chance.randrange(len(rows)), rows.pop(at))
    return "\n".join(rows)


def is_read(text):
    try:
        return written(read(text)) == text
    except NoText:
        return False


class Model(unittest.TestCase):
    def assert_come_to(self, chest, state):
        ahead = set()
        values = {number: ((home, key), value) for number, home, key, value in state["pairs"]}
        for box, why in come_to(chest):
            self.assertNotIn(box, ahead)
            if why == ("hand",):
                self.assertIn(box, state["hands"])
            elif why[0] == "slot":
                self.assertEqual(chest.told(*why[1:]), (box, True))
                self.assertIn(why[1], ahead)
            else:
                word, number = why
                self.assertEqual((word, values[number][1]), ("pair", box))
                self.assertLessEqual(set(values[number][0]), ahead)
            ahead.add(box)
        self.assertEqual(ahead, model.reached(state))
        self.assertEqual(lost(chest), model.lost(state))

    def test_sweeps_beside_the_model(self):
        chance = random.Random(20)
        for _ in range(600):
            chest = some_chest(chance)
            state = picture(chest)
            with self.subTest(written(chest)):
                self.assert_come_to(chest, state)
                self.assertEqual(order_of_wills(chest), model.order(state))
                again = read(written(chest))
                self.assertEqual(picture(chest), state)
                for _ in range(3):
                    told, behind = model.swept(picture(chest))
                    self.assertEqual(sweep(chest), told)
                    self.assertEqual(picture(chest), behind)
                    self.assertEqual(sweep(again), told)
                    self.assertEqual(written(again), written(chest))
                    self.assert_come_to(chest, behind)

    def test_texts_beside_the_model(self):
        chance = random.Random(13)
        many = {True: 0, False: 0}
        for _ in range(3000):
            text = some_change(chance, written(some_chest(chance)))
            with self.subTest(text):
                good = model.is_text(text)
                self.assertIs(is_read(text), good)
                many[good] += 1
        self.assertGreater(min(many.values()), 400)


if __name__ == "__main__":
    unittest.main()
