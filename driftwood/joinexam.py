"""The examiners of joins: they make no search, but go along the rows of the paper."""

from driftwood.closest import is_far_apart, least_of_rows
from driftwood.join import (
    is_apart, is_whole_near, meetings_of_rows, never_meet, pairs_of_rows, places_behind)
from driftwood.pages import page_told


# Rows (place, word) for the rows of a paper, None where they are not those of a cut through both trees.
def rows_of_join(one, two, paper):
    due = [((), one, (), two)]
    rows = []
    for path, other_path, word in paper:
        if len(due) == 0:
            return None
        place = due.pop()
        if place[0] != path or place[2] != other_path:
            return None
        rows.append((place, word))
        if word == "open":
            due.extend(list(reversed(places_behind(place))))
    return rows if len(due) == 0 else None


# Whether all rows are open or have a word that stands, told by stands from the word and the two tolds.
def words_stand(rows, stands):
    for place, word in rows:
        if word != "open" and not stands(word, page_told(place[1]), page_told(place[3])):
            return False
    return True


def pairs_word_stands(word, told, other, far, beat):
    apart = is_apart(told, other, far, beat)
    if word == "whole":
        return not apart and is_whole_near(told, other, far, beat)
    return word == "apart" and apart


def pairs_stand(one, two, far, beat, answer, paper):
    rows = rows_of_join(one, two, paper)
    if rows is None:
        return False
    if not words_stand(rows, lambda word, told, other: pairs_word_stands(word, told, other, far, beat)):
        return False
    return answer == pairs_of_rows(rows, far, beat)


def meetings_stand(one, two, first, last, answer, paper):
    rows = rows_of_join(one, two, paper)
    if rows is None:
        return False
    if not words_stand(rows, lambda word, told, other: word == "apart" and never_meet(told, other, first, last)):
        return False
    return answer == meetings_of_rows(rows, first, last)


def closest_word_stands(word, told, other, beat, row):
    if told is None or other is None:
        return word == "apart"
    return word == "far" and is_far_apart(told, other, beat, row)


def closest_stands(one, two, beat, answer, paper):
    rows = rows_of_join(one, two, paper)
    if rows is None:
        return False
    if not words_stand(rows, lambda word, told, other: closest_word_stands(word, told, other, beat, answer)):
        return False
    return answer == least_of_rows(rows, beat)
