"""Sweeps: the wills of lost boxes are done, and what is lost behind that is given up."""

from lastwill.reaching import lost


def steps_among(chest, boxes):
    """For each of these boxes the list of those of them to which one steps from it."""
    steps = {box: [] for box in boxes}
    for box, _, other, holds in chest.tellings():
        if holds and box in steps and other in steps:
            steps[box].append(other)
    for _, home, key, value in chest.pairs():
        for box in (home, key):
            if box in steps and value in steps:
                steps[box].append(value)
    return steps


def younger_than(box, steps):
    """The boxes to which one comes from this one, by one step or more, as the keys of a dict."""
    found = {}
    ahead = list(steps[box])
    while ahead:
        other = ahead.pop()
        if other not in found:
            found[other] = True
            ahead.extend(steps[other])
    return found


def is_free(box, left, younger):
    """Whether the box has no elder among those left, but for such ones whose elder it is itself."""
    return all([box not in younger[other] or other in younger[box] for other in left])


def order_of_wills(chest):
    """The list of the lost boxes that have a will, in the order in which a sweep would do these wills now."""
    boxes = lost(chest)
    steps = steps_among(chest, boxes)
    left = [box for box in boxes if chest.will(box)]
    younger = {box: younger_than(box, steps) for box in left}
    order = []
    while left:
        first = min([box for box in left if is_free(box, left, younger)])
        order.append(first)
        left.remove(first)
    return order


def do_deed(chest, box, deed):
    """The deed is done for the box; where it can't be done, nothing is."""
    match deed:
        case ("up",):
            chest.take(box)
        case ("down", other):
            if other in chest.hands():
                chest.drop(other)
        case ("hang", other, slot, holds):
            if other in chest.boxes() and slot < chest.size(other):
                chest.put(other, slot, box, holds)


def do_will(chest, box):
    """The deeds of the box's will are done in turn, and the will is spent."""
    deeds = chest.will(box)
    chest.bequeath(box, [])
    for deed in deeds:
        do_deed(chest, box, deed)


def sweep(chest):
    """A tuple of three lists: whose wills were done, in turn; what was given up; what of the lost boxes stays."""
    lost_ahead = lost(chest)
    order = order_of_wills(chest)
    for box in order:
        do_will(chest, box)
    lost_behind = lost(chest)
    given_up = [box for box in lost_ahead if box in lost_behind]
    staying = [box for box in lost_ahead if box not in lost_behind]
    chest.give_up(given_up)
    return order, given_up, staying
