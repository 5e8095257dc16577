"""Boxes: tuples of sides (low, high), both ends belonging to the box.

Whether two meet, whether one lies inside the other, and the gap go by the
words for each side, so they also hold where a side's low is above its high.
"""


def side_cover(one, two):
    return (min(one[0], two[0]), max(one[1], two[1]))


def side_common(one, two):
    return (max(one[0], two[0]), min(one[1], two[1]))


def sides_meet(one, two):
    return one[0] <= two[1] and two[0] <= one[1]


def side_inside(one, two):
    return one[0] >= two[0] and one[1] <= two[1]


# The 0 stands for sides that meet: both differences are then no greater.
def side_gap(one, two):
    return max(0, one[0] - two[1], two[0] - one[1])


def near_places(one, two):
    if one[0] > two[1]:
        return (one[0], two[1])
    if two[0] > one[1]:
        return (one[1], two[0])
    shared = max(one[0], two[0])
    return (shared, shared)


def box_of(one, two):
    return tuple([(min(a, b), max(a, b)) for a, b in zip(one, two)])


def box_cover(one, two):
    return tuple([side_cover(a, b) for a, b in zip(one, two)])


def box_common(one, two):
    if not boxes_meet(one, two):
        return None
    return tuple([side_common(a, b) for a, b in zip(one, two)])


def boxes_meet(one, two):
    return all([sides_meet(a, b) for a, b in zip(one, two)])


def box_inside(one, two):
    return all([side_inside(a, b) for a, b in zip(one, two)])


def box_rim(box):
    return sum([high - low for low, high in box])


def box_gap(one, two):
    gaps = [side_gap(a, b) for a, b in zip(one, two)]
    return sum([gap * gap for gap in gaps])


def near_points(one, two):
    places = [near_places(a, b) for a, b in zip(one, two)]
    return (tuple([pair[0] for pair in places]), tuple([pair[1] for pair in places]))
