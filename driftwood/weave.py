"""Points woven bit by bit into one number, so that points near each other mostly have numbers near each other."""

from driftwood.boxes import sides_meet


# Of bits of like worth the first side's weighs most, so the places fall from the first side to the last one.
def side_of(place, sides):
    return sides - 1 - place % sides


def woven(point, bits):
    number = 0
    for level in range(bits - 1, -1, -1):
        for part in point:
            number = number * 2 + ((part >> level) & 1)
    return number


def unwoven(number, sides, bits):
    point = [0] * sides
    for place in range(sides * bits - 1, -1, -1):
        side = side_of(place, sides)
        point[side] = point[side] * 2 + ((number >> place) & 1)
    return tuple(point)


def earlier(one, two):
    bits = max([part.bit_length() for part in one + two])
    return woven(one, bits) < woven(two, bits)


# Weaving keeps the order of each side, so the least number of a box is that of its lows.
def least_within(cell, box, bits):
    return woven(tuple([max(a[0], b[0]) for a, b in zip(cell, box)]), bits)


# A cell is the box of all points whose numbers begin with the same bits. Whatever is greater than the number leaves
# it at one bit, where it has a one and the number a nought: the later that is, the less the number found.
def next_in(number, box, bits):
    sides = len(box)
    if number >> (sides * bits) != 0:
        return None
    cell = [(0, (1 << bits) - 1)] * sides
    leaving = None
    for place in range(sides * bits - 1, -1, -1):
        side = side_of(place, sides)
        middle = (cell[side][0] + cell[side][1]) // 2
        lower = (cell[side][0], middle)
        upper = (middle + 1, cell[side][1])
        stays = upper
        if ((number >> place) & 1) == 0:
            stays = lower
            if sides_meet(upper, box[side]):
                leaving = list(cell)
                leaving[side] = upper
        if not sides_meet(stays, box[side]):
            return None if leaving is None else least_within(leaving, box, bits)
        cell[side] = stays
    return number
