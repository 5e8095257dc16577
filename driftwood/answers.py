"""The texts in which a talk answers."""

from driftwood.ask import all_that, how_many
from driftwood.closest import closest_pair
from driftwood.join import meetings_of, near_pairs
from driftwood.near import nearest

SIGNS = {"came": "+", "went": "-"}


def listed(words):
    return " ".join(words) if len(words) > 0 else "none"


def done_text(number):
    return f"done {number}"


def ask_text(top, want, beat):
    return listed([str(handle) for handle in all_that(top, want, beat)[0]])


def count_text(top, want, beat):
    told = how_many(top, want, beat)
    return str(told[0]) + " " + str(told[1])


def near_text(top, box, many, beat, want):
    return listed([f"{gap}:{handle}" for gap, handle in nearest(top, box, many, beat, want)[0]])


# Of the two rows that a tree joined with itself has for each two things, the one with the lesser handle first.
def pairs_text(top, far, beat):
    return listed([f"{one}-{two}" for one, two in near_pairs(top, top, far, beat)[0] if one < two])


def meet_text(top, first, last):
    return listed([f"{beat}:{one}-{two}" for beat, one, two in meetings_of(top, top, first, last)[0] if one < two])


# The closest pair is the least row, so its lesser handle stands first by itself.
def close_text(top, beat):
    row = closest_pair(top, top, beat)[0]
    if row is None:
        return "none"
    return str(row[0]) + ":" + str(row[1]) + "-" + str(row[2])


# The watch's number stands ahead of the handles, so that there is always a word.
def watch_text(watch):
    return " ".join([str(watch[0])] + [str(handle) for handle in watch[1]])


def heard_text(news):
    return listed([SIGNS[word] + str(handle) for word, handle in news])
