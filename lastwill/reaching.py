"""What is come to from the hands, and what is lost."""


def held_by(chest, reached):
    """The tuples (box, why) of what these boxes hold by their slots, and by pairs whose home and key are of them."""
    held = []
    for box, slot, other, holds in chest.tellings():
        if holds and box in reached:
            held.append((other, ("slot", box, slot)))
    for pair, home, key, value in chest.pairs():
        if home in reached and key in reached:
            held.append((value, ("pair", pair)))
    return held


def come_to(chest):
    """The list of tuples (box, why) of the boxes that are come to, each behind what it is come to by."""
    reached = {}
    fresh = [(box, ("hand",)) for box in chest.hands()]
    while fresh:
        for box, why in fresh:
            # The same box may be held in several ways; the first of them is told.
            reached.setdefault(box, why)
        fresh = [(box, why) for box, why in held_by(chest, reached) if box not in reached]
    return list(reached.items())


def lost(chest):
    """The list of the boxes that are not come to, rising."""
    reached = dict(come_to(chest))
    return [box for box in chest.boxes() if box not in reached]
