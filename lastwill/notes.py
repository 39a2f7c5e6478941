"""Chests written in rows of text, and read from them."""

from lastwill.chests import Chest
from lastwill.errors import NoText, WillError

MOST_FIGURES = 9
# How many words a deed has, by its first one.
WORDS_OF_DEEDS = {"up": 1, "down": 2, "hang": 4}


def place_word(in_hands):
    """The word for a box in the hands, or for one that is not."""
    return "hand" if in_hands else "free"


def way_word(holds):
    """The word for telling a box and holding it, or for only looking at it."""
    return "holds" if holds else "looks"


def deed_text(deed):
    """The words of a deed, parted by blanks."""
    match deed:
        case ("hang", other, slot, holds):
            return f"hang {other} {slot} {way_word(holds)}"
    return " ".join([str(word) for word in deed])


def will_row(box, deeds):
    """The row of the box's will."""
    return " ".join(["will", str(box)] + [deed_text(deed) for deed in deeds])


def written(chest):
    """The text of the chest."""
    boxes = chest.boxes()
    hands = chest.hands()
    rows = [f"next {chest.next_box} {chest.next_pair}"]
    rows.extend([f"box {box} {chest.size(box)} {place_word(box in hands)}" for box in boxes])
    rows.extend([f"slot {box} {slot} {other} {way_word(holds)}" for box, slot, other, holds in chest.tellings()])
    rows.extend([f"pair {pair} {home} {key} {value}" for pair, home, key, value in chest.pairs()])
    rows.extend([will_row(box, chest.will(box)) for box in boxes if chest.will(box)])
    return "\n".join(rows)


def number_of(word):
    """The number that the word writes."""
    if not word.isdecimal() or len(word) > MOST_FIGURES:
        raise NoText("a number is written by one to nine figures")
    return int(word)


def deed_of(words):
    """The deed that these words write."""
    match words:
        case ["up"]:
            return ("up",)
        case ["down", other]:
            return ("down", number_of(other))
        case ["hang", other, slot, way]:
            return ("hang", number_of(other), number_of(slot), way == "holds")
    raise NoText("no deed is written so")


def deeds_of(words):
    """The list of the deeds that these words write, one behind the other."""
    deeds = []
    start = 0
    while start < len(words):
        end = start + WORDS_OF_DEEDS.get(words[start], 1)
        deeds.append(deed_of(words[start:end]))
        start = end
    return deeds


def read_row(chest, words):
    """What a row behind the first one writes is in the chest from now on."""
    match words:
        case ["box", box, size, place]:
            chest.next_box = number_of(box)
            made = chest.make(number_of(size))
            if place == "free":
                chest.drop(made)
        case ["slot", box, slot, other, way]:
            chest.put(number_of(box), number_of(slot), number_of(other), way == "holds")
        case ["pair", pair, home, key, other]:
            chest.next_pair = number_of(pair)
            chest.pair(number_of(home), number_of(key), number_of(other))
        case ["will", box, *deeds]:
            chest.bequeath(number_of(box), deeds_of(deeds))
        case _:
            raise NoText("no row is written so")


def next_numbers_of(words):
    """The numbers of the next box and of the next pair that the words of a first row write."""
    match words:
        case ["next", box, pair]:
            return number_of(box), number_of(pair)
    raise NoText("no first row is written so")


def count_on(chest, next_box, next_pair):
    """The next box and the next pair of the chest will have these numbers, which must be above all others."""
    if any([box >= next_box for box in chest.boxes()]):
        raise NoText("the next box has a number above those of all boxes")
    if any([row[0] >= next_pair for row in chest.pairs()]):
        raise NoText("the next pair has a number above those of all pairs")
    chest.next_box = next_box
    chest.next_pair = next_pair


def read_rows(rows):
    """The chest that the rows write."""
    next_box, next_pair = next_numbers_of(rows[0].split(" "))
    chest = Chest()
    for row in rows[1:]:
        read_row(chest, row.split(" "))
    # Only now, as each box and each pair of the rows was made with its own number as the next one.
    count_on(chest, next_box, next_pair)
    return chest


def read(text):
    """The chest that the text writes."""
    try:
        chest = read_rows(text.split("\n"))
    except WillError as refusal:
        raise NoText(str(refusal)) from None
    # Rows in another order, rows that stand twice, noughts ahead, a will of no deed, another word in the place of
    # `hand`, `holds` and the like have been let through till here; none of them is written so of the chest.
    if written(chest) != text:
        raise NoText("the text is not written as that of a chest is")
    return chest
