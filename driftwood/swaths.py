"""Frames and swaths: tuples of sides (low, high, slow, fast).

A swath is a frame whose low is no greater than its high and whose slow is no
greater than its fast; a frame's ends may be turned, as a heart's may.
"""


def side_at(side, beat):
    return (side[0] + side[2] * beat, side[1] + side[3] * beat)


def side_joined(one, two):
    return (min(one[0], two[0]), max(one[1], two[1]), min(one[2], two[2]), max(one[3], two[3]))


def side_narrowed(one, two):
    return (max(one[0], two[0]), min(one[1], two[1]), max(one[2], two[2]), min(one[3], two[3]))


def side_held(one, two):
    return one[0] >= two[0] and one[1] <= two[1] and one[2] >= two[2] and one[3] <= two[3]


def still_swath(box):
    return tuple([(side[0], side[1], 0, 0) for side in box])


def drifting(box, speeds):
    return tuple([(side[0], side[1], speed, speed) for side, speed in zip(box, speeds)])


def frame_at(frame, beat):
    return tuple([side_at(side, beat) for side in frame])


def frames_joined(one, two):
    return tuple([side_joined(a, b) for a, b in zip(one, two)])


def frames_narrowed(one, two):
    return tuple([side_narrowed(a, b) for a, b in zip(one, two)])


def frame_held(one, two):
    return all([side_held(a, b) for a, b in zip(one, two)])
