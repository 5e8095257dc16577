"""Questions to a tree by a want: the answer, and a paper, the cut through the tree that it comes from.

A paper's rows are (path, word): shut, whole or open.
"""

from driftwood.pages import is_leaf, page_parts, page_told, things_in, things_tolds
from driftwood.things import thing_handle, told_least, told_many, told_most, told_worth, tolds_poured

WORDS = {"none": "shut", "every": "whole", "open": "open"}


def want_word(want, told, beat):
    if told is None:
        return "shut"
    return WORDS[want.verdict(told, beat)]


# Rows (path, word, page), each page's word told by word_of from its told; behind an open fork come its pages.
def cut_from(page, path, word_of):
    word = word_of(page_told(page))
    rows = [(path, word, page)]
    if word == "open" and not is_leaf(page):
        for position, part in enumerate(page_parts(page)):
            rows.extend(cut_from(part, path + (position,), word_of))
    return rows


def want_cut(top, want, beat):
    return cut_from(top, (), lambda told: want_word(want, told, beat))


def paper_of(cut):
    return tuple([(path, word) for path, word, page in cut])


def suiting_in(things, want, beat):
    return tuple([thing for thing in things if want.suits(thing, beat)])


# An open fork gives nothing itself, since its pages come behind it.
def things_of_row(word, page, want, beat):
    if word == "whole":
        return things_in(page)
    if word == "open" and is_leaf(page):
        return suiting_in(page_parts(page), want, beat)
    return ()


# A whole page needs no look at its things: its told speaks for them.
def told_of_row(word, page, want, beat):
    if word == "whole":
        return page_told(page)
    return tolds_poured(things_tolds(things_of_row(word, page, want, beat)))


# The handles, rising, of pairs (word, page) of a cut.
def handles_of(pages, want, beat):
    handles = []
    for word, page in pages:
        handles.extend([thing_handle(thing) for thing in things_of_row(word, page, want, beat)])
    return tuple(sorted(handles))


def all_that(top, want, beat=0):
    cut = want_cut(top, want, beat)
    return (handles_of([(word, page) for path, word, page in cut], want, beat), paper_of(cut))


def how_many(top, want, beat=0):
    cut = want_cut(top, want, beat)
    told = tolds_poured(tuple([told_of_row(word, page, want, beat) for path, word, page in cut]))
    if told is None:
        return (0, 0, None, None, paper_of(cut))
    return (told_many(told), told_worth(told), told_least(told), told_most(told), paper_of(cut))
