"""Two trees joined: near pairs at a beat and meetings between two beats, each with a paper.

A paper's rows are (path, path, word): apart, whole or open. A place of a join
is (path, page, path, page), a page of the first tree and one of the second.
"""

from driftwood.boxes import box_gap
from driftwood.meeting import meeting
from driftwood.pages import is_leaf, page_parts, page_told, things_in
from driftwood.things import thing_box, thing_handle, thing_swath, told_cover
from driftwood.wants import cover_at, heart_at


def parts_or_itself(path, page):
    if is_leaf(page):
        return [(path, page)]
    return [(path + (position,), part) for position, part in enumerate(page_parts(page))]


# The places straight behind a place that is open; none behind two leaves.
def places_behind(place):
    if is_leaf(place[1]) and is_leaf(place[3]):
        return []
    places = []
    others = parts_or_itself(place[2], place[3])
    for one in parts_or_itself(place[0], place[1]):
        places.extend([one + two for two in others])
    return places


# Rows (place, word), each word told by word_of from the two tolds; an open place has all behind it at once.
def join_cut(one, two, word_of):
    due = [((), one, (), two)]
    rows = []
    while len(due) > 0:
        place = due.pop()
        word = word_of(page_told(place[1]), page_told(place[3]))
        rows.append((place, word))
        if word == "open":
            due.extend(list(reversed(places_behind(place))))
    return rows


def join_paper(rows):
    return tuple([(place[0], place[2], word) for place, word in rows])


def is_open_leaves(place, word):
    return word == "open" and is_leaf(place[1]) and is_leaf(place[3])


# Pairs (handle, box) of the things at a beat, so that no box is reckoned anew for each pair.
def boxes_of(things, beat):
    return [(thing_handle(thing), thing_box(thing, beat)) for thing in things]


# Rows (gap, handle of the first, handle of the second) of all pairs of two leaves.
def gaps_of_leaves(page, other, beat):
    others = boxes_of(page_parts(other), beat)
    rows = []
    for handle, box in boxes_of(page_parts(page), beat):
        rows.extend([(box_gap(box, two[1]), handle, two[0]) for two in others if two[0] != handle])
    return rows


def is_apart(told, other, far, beat):
    if told is None or other is None:
        return True
    return box_gap(cover_at(told, beat), cover_at(other, beat)) > far


# Asked only of tolds that are not None.
def is_whole_near(told, other, far, beat):
    return box_gap(heart_at(told, beat), heart_at(other, beat)) <= far


def pairs_word(told, other, far, beat):
    if is_apart(told, other, far, beat):
        return "apart"
    return "whole" if is_whole_near(told, other, far, beat) else "open"


def pairs_of_whole(page, other):
    others = [thing_handle(thing) for thing in things_in(other)]
    pairs = []
    for thing in things_in(page):
        handle = thing_handle(thing)
        pairs.extend([(handle, two) for two in others if two != handle])
    return pairs


# The near pairs, rising, that rows (place, word) lead to.
def pairs_of_rows(rows, far, beat):
    pairs = []
    for place, word in rows:
        if word == "whole":
            pairs.extend(pairs_of_whole(place[1], place[3]))
        if is_open_leaves(place, word):
            gaps = gaps_of_leaves(place[1], place[3], beat)
            pairs.extend([(row[1], row[2]) for row in gaps if row[0] <= far])
    return tuple(sorted(pairs))


def near_pairs(one, two, far, beat=0):
    rows = join_cut(one, two, lambda told, other: pairs_word(told, other, far, beat))
    return (pairs_of_rows(rows, far, beat), join_paper(rows))


def never_meet(told, other, first, last):
    if told is None or other is None:
        return True
    return meeting(told_cover(told), told_cover(other), first, last) is None


def meetings_word(told, other, first, last):
    return "apart" if never_meet(told, other, first, last) else "open"


def meetings_of_leaves(page, other, first, last):
    rows = []
    for thing in page_parts(page):
        handle = thing_handle(thing)
        others = [two for two in page_parts(other) if thing_handle(two) != handle]
        for two in others:
            span = meeting(thing_swath(thing), thing_swath(two), first, last)
            if span is not None:
                rows.append((span[0], handle, thing_handle(two)))
    return rows


# The meetings, rising, that rows (place, word) lead to.
def meetings_of_rows(rows, first, last):
    met = []
    for place, word in rows:
        if is_open_leaves(place, word):
            met.extend(meetings_of_leaves(place[1], place[3], first, last))
    return tuple(sorted(met))


def meetings_of(one, two, first, last):
    rows = join_cut(one, two, lambda told, other: meetings_word(told, other, first, last))
    return (meetings_of_rows(rows, first, last), join_paper(rows))
