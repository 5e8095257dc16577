"""The examiner of answers to a want: it makes no search, but goes along the rows of the paper."""

from driftwood.ask import handles_of
from driftwood.pages import is_leaf, page_parts, page_told


# Pairs (word, page) for the rows of a paper, None where they are not the rows of a cut through the tree.
def pages_of_cut(top, paper):
    due = [((), top)]
    pages = []
    for path, word in paper:
        if len(due) == 0 or due[-1][0] != path:
            return None
        page = due.pop()[1]
        pages.append((word, page))
        if word == "open" and not is_leaf(page):
            parts = [(path + (position,), part) for position, part in enumerate(page_parts(page))]
            due.extend(list(reversed(parts)))
    return pages if len(due) == 0 else None


def is_shut(told, want, beat):
    return told is None or want.verdict(told, beat) == "none"


def is_whole(told, want, beat):
    return told is not None and want.verdict(told, beat) == "every"


def word_stands(word, told, want, beat):
    if word == "shut":
        return is_shut(told, want, beat)
    if word == "whole":
        return is_whole(told, want, beat)
    return word == "open"


def paper_stands(top, want, beat, answer, paper):
    pages = pages_of_cut(top, paper)
    if pages is None:
        return False
    if not all([word_stands(word, page_told(page), want, beat) for word, page in pages]):
        return False
    return answer == handles_of(pages, want, beat)
