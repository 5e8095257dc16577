"""A store of things in a tree, whose every view stays, and the watches set on it."""

from driftwood.ask import all_that
from driftwood.bounds import HANDLE_BOUND, LEAST_ROOM, MOST_ROOM, MOST_THINGS
from driftwood.errors import NoHandle, NoRoom, NoThing, NoView, NoWatch, Twice
from driftwood.grow import put_thing
from driftwood.mend import take_thing
from driftwood.pages import make_leaf
from driftwood.things import (
    is_number, make_thing, thing_box, thing_handle, thing_marks, thing_speeds, thing_swath, thing_worth)
from driftwood.watch import Watch


def tree_changed(top, room, old, new):
    if old is not None:
        top = take_thing(top, room, old)
    if new is not None:
        top = put_thing(top, room, new)
    return top


class Store:
    def __init__(self, sides, room):
        if not is_number(sides, 2, 3) or not is_number(room, LEAST_ROOM, MOST_ROOM):
            raise NoRoom("no store of such sides or such a room")
        self.sides = sides
        self.room = room
        # The things by their handles, as the newest tree has them.
        self.things = {}
        # The tops of all views; a tree is never changed, so that each stays as it was.
        self.tops = [make_leaf(())]
        self.watches = {}
        self.watches_set = 0

    def put(self, handle, box, speeds=None, marks=0, worth=0):
        thing = self.fitting(make_thing(handle, box, speeds, marks, worth))
        if handle in self.things:
            raise Twice("a thing of this handle is there")
        if len(self.things) >= MOST_THINGS:
            raise NoRoom("the store is full")
        return self.deed_done(None, thing)

    def take(self, handle):
        return self.deed_done(self.thing_of(handle), None)

    def move(self, handle, box, speeds=None):
        old = self.thing_of(handle)
        new = make_thing(handle, box, speeds, thing_marks(old), thing_worth(old))
        return self.deed_done(old, self.fitting(new))

    def stamp(self, handle, marks, worth):
        old = self.thing_of(handle)
        return self.deed_done(old, make_thing(handle, thing_box(old, 0), thing_speeds(old), marks, worth))

    def fitting(self, thing):
        if len(thing_swath(thing)) != self.sides:
            raise NoThing("a box of another count of sides")
        return thing

    # A deed puts the thing new in the place of the thing old, either of which may be None.
    def deed_done(self, old, new):
        self.tops.append(tree_changed(self.tree_at(), self.room, old, new))
        if old is not None:
            self.things.pop(thing_handle(old))
        if new is not None:
            self.things[thing_handle(new)] = new
        for number in self.watches:
            self.watches[number].changed(old, new)
        return self.deeds_done()

    def thing_of(self, handle):
        if not is_number(handle, 0, HANDLE_BOUND) or handle not in self.things:
            raise NoHandle("no thing of this handle is there")
        return self.things[handle]

    def handles(self):
        return tuple(sorted(self.things))

    def deeds_done(self):
        return len(self.tops) - 1

    def tree_at(self, view=None):
        if view is None:
            return self.tops[-1]
        if not is_number(view, 0, self.deeds_done()):
            raise NoView("no such view")
        return self.tops[view]

    def watch(self, want, beat=0):
        suiting = all_that(self.tree_at(), want, beat)[0]
        number = self.watches_set
        self.watches[number] = Watch(want, beat)
        self.watches_set += 1
        return (number, suiting)

    def watch_of(self, number):
        if not is_number(number, 0, self.watches_set) or number not in self.watches:
            raise NoWatch("no such watch is set")
        return self.watches[number]

    def heard(self, number):
        return self.watch_of(number).heard_now()

    def unwatch(self, number):
        self.watch_of(number)
        self.watches.pop(number)
