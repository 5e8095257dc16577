"""Things laid into a new tree, those near each other mostly into the same page."""

from driftwood.bounds import PLACE_BOUND
from driftwood.pages import make_fork, make_leaf
from driftwood.things import thing_handle, thing_swath
from driftwood.weave import woven

# Middles lie from 0 to 2 * PLACE_BOUND once they are lifted above nought.
KEY_BITS = 102


def laying_key(thing):
    middles = [(side[0] + side[1]) // 2 + PLACE_BOUND for side in thing_swath(thing)]
    return woven(tuple(middles), KEY_BITS)


# As few rows as the room allows, as alike in length as can be: so none of several is less than half full.
def rows_within(row, room):
    many = -(-len(row) // room)
    starts = [len(row) * count // many for count in range(many + 1)]
    return [row[start:end] for start, end in zip(starts, starts[1:])]


def laid_tree(things, room):
    row = tuple(sorted(things, key=lambda thing: (laying_key(thing), thing_handle(thing))))
    if len(row) <= room:
        return make_leaf(row)
    pages = tuple([make_leaf(part) for part in rows_within(row, room)])
    while len(pages) > room:
        pages = tuple([make_fork(part) for part in rows_within(pages, room)])
    return make_fork(pages)
