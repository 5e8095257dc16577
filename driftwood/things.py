"""Things, and what is told of them.

A thing is (handle, swath, marks, worth). A told is (cover, heart, some,
every, many, least, most, worth); of no things it is None.
"""

from driftwood.bounds import HANDLE_BOUND, MARKS_BOUND, PLACE_BOUND, SPEED_BOUND, WORTH_BOUND
from driftwood.errors import NoThing
from driftwood.swaths import drifting, frame_at, frames_joined, frames_narrowed, still_swath


# True and False count as numbers for Python, but not here.
def is_number(value, least, most):
    return isinstance(value, int) and not isinstance(value, bool) and least <= value <= most


def is_side(value):
    if not isinstance(value, tuple) or len(value) != 2:
        return False
    return all([is_number(end, -PLACE_BOUND, PLACE_BOUND) for end in value]) and value[0] <= value[1]


def is_box(value):
    return isinstance(value, tuple) and len(value) in (2, 3) and all([is_side(side) for side in value])


def are_speeds(value, sides):
    if not isinstance(value, tuple) or len(value) != sides:
        return False
    return all([is_number(speed, -SPEED_BOUND, SPEED_BOUND) for speed in value])


def make_thing(handle, box, speeds=None, marks=0, worth=0):
    if not is_number(handle, 0, HANDLE_BOUND):
        raise NoThing("no handle")
    if not is_box(box):
        raise NoThing("no box")
    if speeds is not None and not are_speeds(speeds, len(box)):
        raise NoThing("no speeds for this box")
    if not is_number(marks, 0, MARKS_BOUND):
        raise NoThing("no marks")
    if not is_number(worth, -WORTH_BOUND, WORTH_BOUND):
        raise NoThing("no worth")
    swath = still_swath(box) if speeds is None else drifting(box, speeds)
    return (handle, swath, marks, worth)


def thing_handle(thing):
    return thing[0]


def thing_swath(thing):
    return thing[1]


def thing_marks(thing):
    return thing[2]


def thing_worth(thing):
    return thing[3]


# Slow and fast are alike, as a thing keeps its shape.
def thing_speeds(thing):
    return tuple([side[2] for side in thing_swath(thing)])


def thing_box(thing, beat):
    return frame_at(thing_swath(thing), beat)


def told_cover(told):
    return told[0]


def told_heart(told):
    return told[1]


def told_some(told):
    return told[2]


def told_every(told):
    return told[3]


def told_many(told):
    return told[4]


def told_least(told):
    return told[5]


def told_most(told):
    return told[6]


def told_worth(told):
    return told[7]


def thing_told(thing):
    swath = thing_swath(thing)
    marks = thing_marks(thing)
    worth = thing_worth(thing)
    return (swath, swath, marks, marks, 1, worth, worth, worth)


def told_poured(one, two):
    if one is None:
        return two
    if two is None:
        return one
    return (
        frames_joined(one[0], two[0]),
        frames_narrowed(one[1], two[1]),
        one[2] | two[2],
        one[3] & two[3],
        one[4] + two[4],
        min(one[5], two[5]),
        max(one[6], two[6]),
        one[7] + two[7],
    )


def tolds_poured(tolds):
    poured = None
    for told in tolds:
        poured = told_poured(poured, told)
    return poured
