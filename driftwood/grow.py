"""Things put to a tree, which grows by pages that part where they are too full."""

from driftwood.choose import chosen_page, parted
from driftwood.pages import is_leaf, make_fork, make_leaf, page_parts, pages_tolds, things_tolds
from driftwood.things import thing_told


# One row where the room allows it, else two.
def parted_rows(row, tolds, room):
    if len(row) <= room:
        return [row]
    return [tuple([row[position] for position in part]) for part in parted(tolds, room)]


def leaves_of(things, room):
    return tuple([make_leaf(row) for row in parted_rows(things, things_tolds(things), room)])


def forks_of(pages, room):
    return tuple([make_fork(row) for row in parted_rows(pages, pages_tolds(pages), room)])


# The one or two pages that come in the place of a page to which a thing is put.
def pages_with(page, room, thing):
    parts = page_parts(page)
    if is_leaf(page):
        return leaves_of(parts + (thing,), room)
    position = chosen_page(pages_tolds(parts), thing_told(thing))
    grown = pages_with(parts[position], room, thing)
    return forks_of(parts[:position] + grown + parts[position + 1:], room)


def put_thing(top, room, thing):
    pages = pages_with(top, room, thing)
    return pages[0] if len(pages) == 1 else make_fork(pages)
