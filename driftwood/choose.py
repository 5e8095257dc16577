"""Which page a thing goes to, and how the parts of a page that is too full are parted."""

from driftwood.boxes import box_cover, box_rim
from driftwood.swaths import frame_at
from driftwood.things import told_cover


def first_box(told):
    return frame_at(told_cover(told), 0)


def stir_of(box, added):
    rim = box_rim(box)
    return (box_rim(box_cover(box, added)) - rim, rim)


def chosen_page(tolds, told):
    added = first_box(told)
    return min([stir_of(first_box(one), added) + (position,) for position, one in enumerate(tolds)])[2]


def rim_of(boxes):
    cover = boxes[0]
    for box in boxes:
        cover = box_cover(cover, box)
    return box_rim(cover)


# Sorting keeps the row's order among those alike, so the positions are the same each time.
def order_along(boxes, side):
    return sorted(range(len(boxes)), key=lambda position: boxes[position][side][0] + boxes[position][side][1])


def cut_rim(boxes, order, cut):
    return rim_of([boxes[position] for position in order[:cut]]) + rim_of([boxes[position] for position in order[cut:]])


# Of all cuts along a side that give both parts enough, the one with the least rims: so that few questions need both.
def parted(tolds, room):
    boxes = [first_box(told) for told in tolds]
    fewest = max(room // 2, len(tolds) - room)
    best = None
    for side in range(len(boxes[0])):
        order = order_along(boxes, side)
        for cut in range(fewest, len(tolds) - fewest + 1):
            rim = cut_rim(boxes, order, cut)
            if best is None or rim < best[0]:
                best = (rim, order[:cut], order[cut:])
    return (tuple(sorted(best[1])), tuple(sorted(best[2])))
