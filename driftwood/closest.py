"""The closest pair of two trees at a beat, with a paper.

A paper's rows are (path, path, word): apart, far or open.
"""

from driftwood.boxes import box_gap
from driftwood.heap import Heap
from driftwood.join import gaps_of_leaves, is_open_leaves, join_cut, join_paper, places_behind
from driftwood.pages import page_told
from driftwood.wants import cover_at


def covers_gap(told, other, beat):
    return box_gap(cover_at(told, beat), cover_at(other, beat))


def add_place(heap, place, beat):
    told = page_told(place[1])
    other = page_told(place[3])
    if told is not None and other is not None:
        heap.add((covers_gap(told, other, beat),), place)


# The lesser of two rows, either of which may be None.
def lesser_row(row, other):
    if row is None or other is None:
        return other if row is None else row
    return min(row, other)


def least_of_leaves(place, beat):
    return min(gaps_of_leaves(place[1], place[3], beat), default=None)


# A place just as far as the row found may still hold a row of lesser handles.
def may_hold_less(heap, row):
    return heap.size() > 0 and (row is None or heap.first_rank()[0] <= row[0])


def closest_row(one, two, beat):
    heap = Heap()
    add_place(heap, ((), one, (), two), beat)
    row = None
    while may_hold_less(heap, row):
        place = heap.draw()[1]
        if is_open_leaves(place, "open"):
            row = lesser_row(row, least_of_leaves(place, beat))
        for behind in places_behind(place):
            add_place(heap, behind, beat)
    return row


def is_far_apart(told, other, beat, row):
    return row is not None and covers_gap(told, other, beat) > row[0]


def closest_word(told, other, beat, row):
    if told is None or other is None:
        return "apart"
    return "far" if is_far_apart(told, other, beat, row) else "open"


# The least row that rows (place, word) lead to, None where there is none.
def least_of_rows(rows, beat):
    least = None
    for place, word in rows:
        if is_open_leaves(place, word):
            least = lesser_row(least, least_of_leaves(place, beat))
    return least


def closest_pair(one, two, beat=0):
    row = closest_row(one, two, beat)
    return (row, join_paper(join_cut(one, two, lambda told, other: closest_word(told, other, beat, row))))
