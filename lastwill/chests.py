"""Chests: boxes with their slots, the hands, pairs, and wills as they are given.

The words of a refusal tell no number that was handed in: Python does not write numbers of thousands of figures, and
would raise an error of its own instead of the refusal.
"""

from lastwill.errors import NoBox, NoHand, NoPair, NoSlot, NoWill, TooMany

LARGEST_SIZE = 9
MOST_BOXES = 60
MOST_PAIRS = 60
MOST_DEEDS = 9


def has_number_below_0(deed):
    """Whether a number in the deed is below 0."""
    # Behind the word stand at most two numbers; what follows them is no number, but whether it holds.
    return any([number < 0 for number in deed[1:3]])


class Box:
    """What a chest keeps of one box: its slots, whether it is in the hands, the deeds of its will."""

    def __init__(self, size):
        # A slot is None where it is empty, else a tuple (other, holds).
        self.slots = [None] * size
        self.in_hands = True
        self.deeds = []


class Chest:
    """Boxes and pairs by their numbers."""

    def __init__(self):
        # The next numbers are kept apart from the dicts, as a number that was given never comes again.
        self.next_box = 0
        self.next_pair = 0
        self.kept_boxes = {}
        # Each pair is a tuple (home, key, value).
        self.kept_pairs = {}

    def make(self, size):
        """A new box of this size, in the hands; its number."""
        if size < 0 or size > LARGEST_SIZE:
            raise NoSlot(f"a box has from 0 to {LARGEST_SIZE} slots")
        if len(self.kept_boxes) >= MOST_BOXES:
            raise TooMany(f"there are {MOST_BOXES} boxes")
        box = self.next_box
        self.kept_boxes[box] = Box(size)
        self.next_box = box + 1
        return box

    def boxes(self):
        """The list of all boxes, rising."""
        return sorted(self.kept_boxes)

    def size(self, box):
        """The number of the box's slots."""
        return len(self._kept_box(box).slots)

    def put(self, box, slot, other, holds):
        """The slot tells the other box from now on."""
        slots = self._slots_with(box, slot)
        self._kept_box(other)
        slots[slot] = (other, holds)

    def empty(self, box, slot):
        """The slot is empty from now on."""
        slots = self._slots_with(box, slot)
        slots[slot] = None

    def told(self, box, slot):
        """None where the slot is empty, else a tuple (other, holds)."""
        return self._slots_with(box, slot)[slot]

    def tellings(self):
        """The list of tuples (box, slot, other, holds) of the slots that are not empty, by boxes and slots."""
        return [
            (box, slot, *told)
            for box in self.boxes()
            for slot, told in enumerate(self.kept_boxes[box].slots)
            if told is not None
        ]

    def take(self, box):
        """The box is in the hands from now on, also where it was there already."""
        kept = self._kept_box(box)
        kept.in_hands = True

    def drop(self, box):
        """The box is not in the hands from now on."""
        kept = self._kept_box(box)
        if not kept.in_hands:
            raise NoHand("the box is not in the hands")
        kept.in_hands = False

    def hands(self):
        """The list of the boxes in the hands, rising."""
        return [box for box in self.boxes() if self.kept_boxes[box].in_hands]

    def pair(self, home, key, other):
        """A new pair, other its value; its number."""
        for box in (home, key, other):
            self._kept_box(box)
        if len(self.kept_pairs) >= MOST_PAIRS:
            raise TooMany(f"there are {MOST_PAIRS} pairs")
        pair = self.next_pair
        self.kept_pairs[pair] = (home, key, other)
        self.next_pair = pair + 1
        return pair

    def unpair(self, pair):
        """The pair goes."""
        if pair not in self.kept_pairs:
            raise NoPair("there is no such pair")
        del self.kept_pairs[pair]

    def pairs(self):
        """The list of tuples (pair, home, key, value), by rising numbers."""
        return [(pair, *self.kept_pairs[pair]) for pair in sorted(self.kept_pairs)]

    def bequeath(self, box, deeds):
        """The deeds are the box's will now, in the place of what it had; an empty list: it has none."""
        kept = self._kept_box(box)
        if len(deeds) > MOST_DEEDS:
            raise NoWill(f"a will has at most {MOST_DEEDS} deeds")
        for deed in deeds:
            if has_number_below_0(deed):
                raise NoWill("a number in a deed is below 0")
        kept.deeds = list(deeds)

    def will(self, box):
        """The list of the deeds of the box's will, empty where it has none."""
        return list(self._kept_box(box).deeds)

    def give_up(self, boxes):
        """These boxes, which must be there, are none any more: no slot tells them, and no pair is of them."""
        for box in boxes:
            del self.kept_boxes[box]
        for box, slot, other, _ in self.tellings():
            if other not in self.kept_boxes:
                self.empty(box, slot)
        for pair, *ends in self.pairs():
            if any([end not in self.kept_boxes for end in ends]):
                self.unpair(pair)

    def _kept_box(self, box):
        """What is kept of the box, which must be there."""
        if box not in self.kept_boxes:
            raise NoBox("there is no such box")
        return self.kept_boxes[box]

    def _slots_with(self, box, slot):
        """The slots of the box, which must be there and have this slot."""
        slots = self._kept_box(box).slots
        if slot < 0 or slot >= len(slots):
            raise NoSlot("the box has no such slot")
        return slots
