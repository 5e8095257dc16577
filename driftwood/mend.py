"""Things taken from a tree, whose thin pages are mended with a page beside them."""

from driftwood.choose import chosen_page
from driftwood.errors import NoHandle
from driftwood.grow import forks_of, leaves_of
from driftwood.pages import is_leaf, make_fork, make_leaf, page_parts, page_told, pages_tolds
from driftwood.swaths import frame_held
from driftwood.things import thing_swath, told_cover


# Of a told that is right, what its cover does not hold lies nowhere beneath it.
def may_hold(told, thing):
    return frame_held(thing_swath(thing), told_cover(told))


# The path of the leaf that has the thing, None where there is none.
def path_to(page, thing):
    if is_leaf(page):
        return () if thing in page_parts(page) else None
    for position, part in enumerate(page_parts(page)):
        if may_hold(page_told(part), thing):
            path = path_to(part, thing)
            if path is not None:
                return (position,) + path
    return None


# Two pages of one height as one page, or as two where one would be too full.
def pages_joined(one, two, room):
    parts = page_parts(one) + page_parts(two)
    return leaves_of(parts, room) if is_leaf(one) else forks_of(parts, room)


# A thin page is joined with a page beside it alone, so that only these two are written anew.
def fork_with(pages, position, page, room):
    ahead = pages[:position]
    behind = pages[position + 1:]
    if len(page_parts(page)) >= room // 2:
        return make_fork(ahead + (page,) + behind)
    others = ahead + behind
    chosen = chosen_page(pages_tolds(others), page_told(page))
    return make_fork(others[:chosen] + pages_joined(others[chosen], page, room) + others[chosen + 1:])


# The page without the thing; it may be thin, which is for the page above it to mend.
def page_without(page, path, room, thing):
    parts = page_parts(page)
    if is_leaf(page):
        position = parts.index(thing)
        return make_leaf(parts[:position] + parts[position + 1:])
    return fork_with(parts, path[0], page_without(parts[path[0]], path[1:], room, thing), room)


def take_thing(top, room, thing):
    path = path_to(top, thing)
    if path is None:
        raise NoHandle("no such thing is in the tree")
    page = page_without(top, path, room, thing)
    if not is_leaf(page) and len(page_parts(page)) == 1:
        return page_parts(page)[0]
    return page
