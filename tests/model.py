"""The points of DOC.md once more, as plainly as they can be counted out, to compare the program with.

Everything here goes by the picture of a chest (tests.helpers) and is written without the program.
"""

import re


def holdings(state):
    """The rows (box, other) of the slots that hold."""
    return [(box, told[0]) for box, _, told in state["slots"] if told is not None and told[1]]


def boxes_of(state):
    return [box for box, _ in state["sizes"]]


def reached(state):
    """Point 6: the set of the boxes that are come to."""
    found = set(state["hands"])
    while True:
        more = {other for box, other in holdings(state) if box in found}
        more |= {value for _, home, key, value in state["pairs"] if {home, key} <= found}
        if more <= found:
            return found
        found |= more


def lost(state):
    """Point 7."""
    return sorted(set(boxes_of(state)) - reached(state))


def elders(state):
    """Point 8: the set of the rows (elder, box)."""
    gone = lost(state)
    steps = set(holdings(state))
    for _, home, key, value in state["pairs"]:
        steps |= {(home, value), (key, value)}
    come = {(one, two) for one, two in steps if one in gone and two in gone}
    for middle in gone:
        come |= {(one, two) for one in gone for two in gone if (one, middle) in come and (middle, two) in come}
    return come


def order(state):
    """Point 9."""
    above = elders(state)
    wills = dict(state["wills"])
    left = {box for box in lost(state) if wills[box]}
    done = []
    while left:
        done.append(min(
            box for box in left
            if not [elder for elder in left if (elder, box) in above and (box, elder) not in above]
        ))
        left.remove(done[-1])
    return done


def swept(state):
    """Points 5, 10 and 11: what a sweep gives, and the picture behind it."""
    sizes, hands, wills = dict(state["sizes"]), set(state["hands"]), dict(state["wills"])
    slots = {(box, slot): told for box, slot, told in state["slots"]}

    def now():
        return {
            "sizes": sorted(sizes.items()),
            "slots": [(box, slot, told) for (box, slot), told in sorted(slots.items(), key=lambda row: row[0])],
            "hands": sorted(hands),
            "pairs": pairs,
            "wills": sorted(wills.items()),
        }

    pairs = list(state["pairs"])
    gone, wills_done = lost(state), order(state)
    for box in wills_done:
        for deed in wills[box]:
            if deed[0] == "up":
                hands.add(box)
            elif deed[0] == "down":
                hands.discard(deed[1])
            elif (deed[1], deed[2]) in slots:
                slots[deed[1], deed[2]] = (box, deed[3])
        wills[box] = []
    still = reached(now())
    given_up = [box for box in gone if box not in still]
    for box in given_up:
        del sizes[box], wills[box]
    slots = {
        at: None if told is None or told[0] in given_up else told
        for at, told in slots.items() if at[0] not in given_up
    }
    pairs = [row for row in pairs if not set(row[1:]) & set(given_up)]
    return (wills_done, given_up, [box for box in gone if box in still]), now()


NUMBER = "(?:0|[1-9][0-9]{0,8})"
DEED = f"(?:up|down {NUMBER}|hang {NUMBER} {NUMBER} (?:holds|looks))"
FORM = re.compile(
    f"next {NUMBER} {NUMBER}"
    f"(?:\nbox {NUMBER} [0-9] (?:hand|free)){{0,60}}"
    f"(?:\nslot {NUMBER} {NUMBER} {NUMBER} (?:holds|looks))*"
    f"(?:\npair {NUMBER} {NUMBER} {NUMBER} {NUMBER}){{0,60}}"
    f"(?:\nwill {NUMBER}(?: {DEED}){{1,9}})*"
)


def is_text(text):
    """Point 13: whether the text is that of a chest."""
    if not FORM.fullmatch(text):
        return False
    rows = [row.split(" ") for row in text.split("\n")]
    numbers = {
        kind: [tuple(int(word) for word in row[1:] if word.isdigit()) for row in rows if row[0] == kind]
        for kind in ("box", "slot", "pair")
    }
    next_box, next_pair = int(rows[0][1]), int(rows[0][2])
    boxes = [row[0] for row in numbers["box"]]
    places = [row[:2] for row in numbers["slot"]]
    pairs = [row[0] for row in numbers["pair"]]
    wills = [int(row[1]) for row in rows if row[0] == "will"]
    there = {(box, slot) for box, size in numbers["box"] for slot in range(size)}
    told = {row[2] for row in numbers["slot"]} | {box for row in numbers["pair"] for box in row[1:]} | set(wills)
    return (
        all(part == sorted(set(part)) for part in (boxes, places, pairs, wills))
        and set(places) <= there
        and told <= set(boxes)
        and max(boxes, default=-1) < next_box
        and max(pairs, default=-1) < next_pair
    )
