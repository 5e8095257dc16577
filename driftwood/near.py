"""The nearest to a box at a beat: rows (gap, handle) with a paper, and their examiner.

A paper's rows are (path, word): shut, far or open.
"""

from driftwood.ask import cut_from, paper_of, suiting_in
from driftwood.boxes import box_gap
from driftwood.examine import is_shut, pages_of_cut
from driftwood.heap import Heap
from driftwood.pages import is_leaf, page_parts, page_told
from driftwood.things import thing_box, thing_handle
from driftwood.wants import Anything, cover_at

# A page goes ahead of rows of the same gap, since a row of a lesser handle may lie beneath it.
PAGE_RANK = 0
ROW_RANK = 1


def want_or_anything(want):
    return Anything() if want is None else want


def cover_gap(told, box, beat):
    return box_gap(cover_at(told, beat), box)


def rows_of_leaf(page, box, beat, want):
    things = suiting_in(page_parts(page), want, beat)
    return [(box_gap(thing_box(thing, beat), box), thing_handle(thing)) for thing in things]


def add_page(heap, page, box, beat, want):
    told = page_told(page)
    if not is_shut(told, want, beat):
        heap.add((cover_gap(told, box, beat), PAGE_RANK), page)


def add_parts(heap, page, box, beat, want):
    if is_leaf(page):
        for gap, handle in rows_of_leaf(page, box, beat, want):
            heap.add((gap, ROW_RANK, handle), (gap, handle))
    else:
        for part in page_parts(page):
            add_page(heap, part, box, beat, want)


# What is drawn is no farther than all that is still to come: only pages that may hold one of the rows are looked into.
def nearest_rows(top, box, many, beat, want):
    heap = Heap()
    add_page(heap, top, box, beat, want)
    rows = []
    while len(rows) < many and heap.size() > 0:
        drawn = heap.draw()
        if drawn[0][1] == ROW_RANK:
            rows.append(drawn[1])
        else:
            add_parts(heap, drawn[1], box, beat, want)
    return tuple(rows)


# Whether nothing of a told can come among the rows, by its gap alone.
def is_far(told, box, many, beat, rows):
    if many == 0:
        return True
    return len(rows) == many and cover_gap(told, box, beat) > rows[-1][0]


def near_word(told, box, many, beat, want, rows):
    if is_shut(told, want, beat):
        return "shut"
    return "far" if is_far(told, box, many, beat, rows) else "open"


def nearest(top, box, many, beat=0, want=None):
    asked = want_or_anything(want)
    rows = nearest_rows(top, box, many, beat, asked)
    cut = cut_from(top, (), lambda told: near_word(told, box, many, beat, asked, rows))
    return (rows, paper_of(cut))


def near_word_stands(word, told, box, many, beat, want, rows):
    if word == "shut":
        return is_shut(told, want, beat)
    if word == "far":
        return told is not None and is_far(told, box, many, beat, rows)
    return word == "open"


def rows_of_open_leaves(pages, box, beat, want):
    rows = []
    for word, page in pages:
        if word == "open" and is_leaf(page):
            rows.extend(rows_of_leaf(page, box, beat, want))
    return rows


def near_stands(top, box, many, beat, want, rows, paper):
    asked = want_or_anything(want)
    pages = pages_of_cut(top, paper)
    if pages is None:
        return False
    if not all([near_word_stands(word, page_told(page), box, many, beat, asked, rows) for word, page in pages]):
        return False
    return rows == tuple(sorted(rows_of_open_leaves(pages, box, beat, asked))[:many])
