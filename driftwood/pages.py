"""Pages: leaves ("leaf", told, things) and forks ("fork", told, pages)."""

from driftwood.errors import NoPath
from driftwood.things import thing_told, tolds_poured


def is_leaf(page):
    return page[0] == "leaf"


def page_told(page):
    return page[1]


# The things of a leaf, the pages of a fork.
def page_parts(page):
    return page[2]


def things_tolds(things):
    return tuple([thing_told(thing) for thing in things])


def pages_tolds(pages):
    return tuple([page_told(page) for page in pages])


def make_leaf(things):
    return ("leaf", tolds_poured(things_tolds(things)), things)


def make_fork(pages):
    return ("fork", tolds_poured(pages_tolds(pages)), pages)


def things_in(page):
    if is_leaf(page):
        return page_parts(page)
    things = []
    for part in page_parts(page):
        things.extend(things_in(part))
    return tuple(things)


def page_at(top, path):
    page = top
    for position in path:
        # Python would take a position below nought as one counted from the end.
        if is_leaf(page) or position < 0 or position >= len(page_parts(page)):
            raise NoPath("no page stands at this path")
        page = page_parts(page)[position]
    return page


def paths_from(page, path):
    paths = [path]
    if not is_leaf(page):
        for position, part in enumerate(page_parts(page)):
            paths.extend(paths_from(part, path + (position,)))
    return paths


def paths_in(top):
    return tuple(paths_from(top, ()))


def page_height(page):
    height = 0
    while not is_leaf(page):
        page = page_parts(page)[0]
        height += 1
    return height


def is_told_wrong(page):
    parts = page_parts(page)
    tolds = things_tolds(parts) if is_leaf(page) else pages_tolds(parts)
    return page_told(page) != tolds_poured(tolds)


# A top may hold little, since a tree may; but a top fork of one page would be needless.
def fewest_parts(page, room, is_top):
    if not is_top:
        return room // 2
    return 0 if is_leaf(page) else 2


def is_uneven(page):
    if is_leaf(page):
        return False
    heights = [page_height(part) for part in page_parts(page)]
    return min(heights) != max(heights)


def is_ill(page, room, is_top):
    many = len(page_parts(page))
    wrong_many = many > room or many < fewest_parts(page, room, is_top)
    return wrong_many or is_told_wrong(page) or is_uneven(page)


def tree_ills(top, room):
    return tuple([path for path in paths_in(top) if is_ill(page_at(top, path), room, path == ())])
