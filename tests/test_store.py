"""[10.1] to [10.5]: stores, views and watches."""

import unittest

from driftwood.ask import all_that, how_many
from driftwood.examine import paper_stands
from driftwood.pages import make_leaf, things_in, tree_ills
from driftwood.store import Store
from driftwood.things import make_thing
from driftwood.wants import Anything, Marked, Meets, Want, Worthy
from tests.helper import NO_NUMBERS, Row, mixed_want, refusals_of, suits_by_the_words, told_plainly

BOX = ((0, 4), (0, 4))
SOLID = ((0, 4), (0, 4), (0, 4))
PLACE = 10**30
SPEED = 10**15
NO_BOXES = (
    None, 5, "box", [(0, 1), (0, 1)], (), ((0, 1),), ((0, 1), [0, 1]), ((0, 1), (2, 1)), ((0, 1), (0, True)),
    ((0, 1), (0, PLACE + 1)), ((-PLACE - 1, 0), (0, 1)), ((0, 1), (0, 1, 2)), ((0, 1),) * 4)
NO_SPEEDS = (5, "fast", (1,), (1, 2, 3), [1, 2], (1, None), (1, True), (SPEED + 1, 0), (0, -SPEED - 1), ())
NO_MARKS = NO_NUMBERS + (-1, 65536)
NO_WORTHS = NO_NUMBERS + (-PLACE - 1, PLACE + 1)


def state_of(store):
    """All that can be asked of a store without changing it."""
    things = tuple(store.thing_of(handle) for handle in store.handles())
    trees = tuple(store.tree_at(view) for view in range(store.deeds_done() + 1))
    return store.handles(), things, store.deeds_done(), trees, store.tree_at()


class Keeping(unittest.TestCase):
    def refuse(self, name, store, ask, *given, **named):
        before = state_of(store)
        self.assertEqual(refusals_of(ask, *given, **named), (name,), (given, named))
        self.assertEqual(state_of(store), before)


class Made(unittest.TestCase):
    """[10.1]"""

    def test_good_ones(self):
        for sides in (2, 3):
            for room in range(4, 17):
                store = Store(sides, room)
                self.assertEqual(state_of(store), ((), (), 0, (make_leaf(()),), make_leaf(())))
        self.assertEqual(Store(room=4, sides=2).handles(), ())

    def test_no_sides(self):
        for sides in NO_NUMBERS + (1, 4, 0, -2, -3, 10**30, 2.0, 3.0, "2"):
            self.assertEqual(refusals_of(Store, sides, 4), ("NoRoom",), sides)

    def test_no_room(self):
        for room in NO_NUMBERS + (3, 17, 0, -4, 10**30, 4.0, 16.0, "4", (4,)):
            self.assertEqual(refusals_of(Store, 2, room), ("NoRoom",), room)
            self.assertEqual(refusals_of(Store, room, room), ("NoRoom",), room)


class Deeds(Keeping):
    """[10.2], and the numbers of [10.3]"""

    def test_put(self):
        store = Store(2, 4)
        self.assertEqual(store.put(7, BOX, (1, -2), 3, -4), 1)
        self.assertEqual(store.put(2, BOX), 2)
        self.assertEqual(store.put(worth=9, marks=1, speeds=None, box=BOX, handle=5), 3)
        self.assertEqual(store.handles(), (2, 5, 7))
        self.assertEqual(store.thing_of(7), make_thing(7, BOX, (1, -2), 3, -4))
        self.assertEqual(store.thing_of(2), make_thing(2, BOX))
        self.assertEqual(store.thing_of(5), make_thing(5, BOX, None, 1, 9))

    def test_take(self):
        store = Store(3, 4)
        store.put(7, SOLID)
        store.put(2, SOLID)
        self.assertEqual((store.take(7), store.handles()), (3, (2,)))
        self.assertEqual((store.put(7, SOLID, None, 1), store.thing_of(7)[2]), (4, 1))
        self.assertEqual((store.take(handle=2), store.take(7), store.handles()), (5, 6, ()))
        self.assertEqual(store.tree_at(), make_leaf(()))

    def test_move(self):
        store = Store(2, 4)
        store.put(7, BOX, (1, -2), 3, -4)
        self.assertEqual(store.move(7, ((5, 6), (7, 8)), (9, 0)), 2)
        self.assertEqual(store.thing_of(7), make_thing(7, ((5, 6), (7, 8)), (9, 0), 3, -4))
        self.assertEqual(store.move(speeds=None, box=BOX, handle=7), 3)
        self.assertEqual(store.thing_of(7), make_thing(7, BOX, None, 3, -4))
        self.assertEqual((store.move(7, BOX), things_in(store.tree_at())), (4, (make_thing(7, BOX, None, 3, -4),)))

    def test_stamp(self):
        store = Store(3, 4)
        store.put(7, SOLID, (1, -2, 3), 3, -4)
        self.assertEqual(store.stamp(7, 65535, PLACE), 2)
        self.assertEqual(store.thing_of(7), make_thing(7, SOLID, (1, -2, 3), 65535, PLACE))
        self.assertEqual(store.stamp(worth=0, marks=0, handle=7), 3)
        self.assertEqual(store.thing_of(7), make_thing(7, SOLID, (1, -2, 3)))

    def test_put_refused_with_no_thing(self):
        store = Store(2, 4)
        store.put(1, BOX)
        for handle in NO_NUMBERS + (-1, 10**18 + 1):
            self.refuse("NoThing", store, store.put, handle, BOX)
        for box in NO_BOXES + (SOLID,):
            self.refuse("NoThing", store, store.put, 2, box)
        for speeds in NO_SPEEDS:
            self.refuse("NoThing", store, store.put, 2, BOX, speeds)
        for marks in NO_MARKS:
            self.refuse("NoThing", store, store.put, 2, BOX, None, marks)
        for worth in NO_WORTHS:
            self.refuse("NoThing", store, store.put, 2, BOX, None, 0, worth)
        self.refuse("NoThing", Store(3, 4), Store(3, 4).put, 2, BOX)
        self.assertEqual(store.put(10**18, ((-PLACE, PLACE), (0, 0)), (SPEED, -SPEED), 65535, -PLACE), 2)

    def test_put_refused_with_twice(self):
        store = Store(2, 4)
        store.put(1, BOX)
        self.refuse("Twice", store, store.put, 1, BOX)
        self.refuse("Twice", store, store.put, 1, ((9, 9), (9, 9)), (1, 1), 2, 3)
        for box in NO_BOXES + (SOLID,):
            self.refuse("NoThing", store, store.put, 1, box)
        self.refuse("NoThing", store, store.put, 1, BOX, (1, 2, 3))
        self.refuse("NoThing", store, store.put, 1, BOX, None, 65536)
        self.refuse("NoThing", store, store.put, 1, BOX, None, 0, PLACE + 1)
        store.take(1)
        self.assertEqual(store.put(1, BOX), 3)

    def test_a_thousand_things_and_one_more(self):
        store = Store(2, 16)
        for handle in range(1000):
            self.assertEqual(store.put(handle, ((handle, handle), (handle % 7, 9))), handle + 1)
        before = store.tree_at()
        self.assertEqual(refusals_of(store.put, 1000, BOX), ("NoRoom",))
        self.assertEqual(refusals_of(store.put, 5, BOX), ("Twice",))
        self.assertEqual(refusals_of(store.put, 1000, SOLID), ("NoThing",))
        self.assertEqual(refusals_of(store.put, -1, BOX), ("NoThing",))
        self.assertEqual((store.deeds_done(), len(store.handles()), store.tree_at()), (1000, 1000, before))
        self.assertEqual(tree_ills(store.tree_at(), 16), ())
        self.assertEqual((store.move(5, BOX), store.stamp(6, 1, 1)), (1001, 1002))
        self.assertEqual((store.take(999), store.put(1000, BOX)), (1003, 1004))
        self.assertEqual(refusals_of(store.put, 999, BOX), ("NoRoom",))

    def test_no_handle(self):
        store = Store(2, 4)
        store.put(1, BOX)
        store.put(3, BOX)
        store.take(3)
        for handle in (0, 2, 3, 10**18, -1, 10**18 + 1) + NO_NUMBERS:
            self.refuse("NoHandle", store, store.take, handle)
            self.refuse("NoHandle", store, store.thing_of, handle)
            self.refuse("NoHandle", store, store.move, handle, BOX)
            self.refuse("NoHandle", store, store.stamp, handle, 1, 1)
            for box in NO_BOXES + (SOLID,):
                self.refuse("NoHandle", store, store.move, handle, box)
            for number in NO_NUMBERS:
                self.refuse("NoHandle", store, store.stamp, handle, number, number)

    def test_move_and_stamp_refused_with_no_thing(self):
        store = Store(2, 4)
        store.put(1, BOX, (1, 2), 3, 4)
        for box in NO_BOXES + (SOLID,):
            self.refuse("NoThing", store, store.move, 1, box)
        for speeds in NO_SPEEDS:
            self.refuse("NoThing", store, store.move, 1, BOX, speeds)
        for marks in NO_MARKS:
            self.refuse("NoThing", store, store.stamp, 1, marks, 0)
        for worth in NO_WORTHS:
            self.refuse("NoThing", store, store.stamp, 1, 0, worth)
        solid = Store(3, 4)
        solid.put(1, SOLID)
        self.refuse("NoThing", solid, solid.move, 1, BOX)
        self.refuse("NoThing", solid, solid.move, 1, SOLID, (1, 2))

    def test_what_is_handed_back_is_plain(self):
        store = Store(2, 4)
        store.put(1, BOX)
        self.assertTrue(told_plainly((state_of(store), store.watch(Anything()), store.heard(0))))
        self.assertEqual([type(value) for value in (store.handles(), store.thing_of(1), store.deeds_done())], [tuple, tuple, int])


class Views(Keeping):
    """[10.3]"""

    def test_views_of_a_few_deeds(self):
        store = Store(2, 4)
        one, two = make_thing(1, BOX), make_thing(2, BOX, (1, 1))
        store.put(1, BOX)
        store.put(2, BOX, (1, 1))
        store.stamp(1, 5, 6)
        store.take(2)
        self.assertEqual([sorted(things_in(store.tree_at(view))) for view in range(5)], [
            [], [one], [one, two], [make_thing(1, BOX, None, 5, 6), two], [make_thing(1, BOX, None, 5, 6)]])
        self.assertEqual((store.tree_at(), store.tree_at(None), store.tree_at(view=4)), (store.tree_at(4),) * 3)

    def test_no_view(self):
        store = Store(2, 4)
        for deeds in range(4):
            for view in (-1, -2, deeds + 1, deeds + 2, 10**18, -10**18) + NO_NUMBERS[1:]:
                self.refuse("NoView", store, store.tree_at, view)
            self.assertEqual(store.tree_at(deeds), store.tree_at())
            self.assertEqual(len(things_in(store.tree_at(0))), 0)
            store.put(deeds, BOX)

    def test_a_refused_deed_makes_no_view(self):
        store = Store(2, 4)
        store.put(1, BOX)
        for ask, given in ((store.put, (1, BOX)), (store.take, (2,)), (store.move, (1, SOLID)), (store.stamp, (1, -1, 0))):
            self.assertNotEqual(refusals_of(ask, *given), ())
        self.assertEqual(store.deeds_done(), 1)
        self.assertEqual(refusals_of(store.tree_at, 2), ("NoView",))

    def test_each_view_stays_behind_later_deeds(self):
        row = Row(180)
        for room in (4, 5, 11, 16):
            store, here, views = Store(2, room), {}, [((), make_leaf(()))]
            for handle in range(150):
                kind = row.number(0, 5) if here else 0
                known = row.mixed(here)[0] if here else None
                thing = row.small_thing(handle if kind < 3 else known, 2)
                box, speeds = tuple(side[:2] for side in thing[1]), tuple(side[2] for side in thing[1])
                if kind < 3:
                    store.put(handle, box, speeds, *thing[2:])
                    here[handle] = thing
                elif kind == 3:
                    store.move(known, box, speeds)
                    here[known] = thing[:2] + here[known][2:]
                elif kind == 4:
                    store.stamp(known, *thing[2:])
                    here[known] = here[known][:2] + thing[2:]
                else:
                    store.take(known)
                    del here[known]
                self.assertEqual(store.deeds_done(), len(views))
                self.assertEqual(tree_ills(store.tree_at(), room), ())
                views.append((tuple(sorted(here.values())), store.tree_at()))
            for view, (things, tree) in enumerate(views):
                self.assertEqual(store.tree_at(view), tree)
                self.assertEqual(tuple(sorted(things_in(tree))), things)
                want = mixed_want(row, 2, 2)
                due = [thing for thing in things if suits_by_the_words(want, thing, 1)]
                answer, paper = all_that(store.tree_at(view), want, 1)
                self.assertEqual(answer, tuple(sorted(thing[0] for thing in due)))
                self.assertEqual(how_many(store.tree_at(view), want, 1)[:2], (len(due), sum(thing[3] for thing in due)))
                self.assertIs(paper_stands(store.tree_at(view), want, 1, answer, paper), True)


class Watches(Keeping):
    """[10.4]"""

    NEAR = Meets(((0, 9), (0, 9)))

    def test_set_asked_and_let_go(self):
        store = Store(2, 4)
        store.put(8, BOX)
        store.put(3, BOX)
        self.assertEqual(store.watch(self.NEAR), (0, (3, 8)))
        self.assertEqual(store.heard(0), ())
        store.put(5, BOX)
        store.take(8)
        store.put(6, ((50, 50), (0, 0)))
        store.move(3, ((50, 50), (0, 0)))
        store.move(6, BOX)
        self.assertEqual(store.heard(0), (("came", 5), ("went", 8), ("went", 3), ("came", 6)))
        self.assertEqual(store.heard(number=0), ())
        self.assertIsNone(store.unwatch(0))
        self.assertEqual(refusals_of(store.heard, 0), ("NoWatch",))
        self.assertEqual(refusals_of(store.unwatch, 0), ("NoWatch",))

    def test_numbers_go_on_whatever_was_let_go(self):
        store = Store(2, 4)
        self.assertEqual([store.watch(Anything())[0] for _ in range(3)], [0, 1, 2])
        store.unwatch(2)
        store.unwatch(number=0)
        self.assertEqual([store.watch(Anything())[0] for _ in range(2)], [3, 4])
        for number in (1, 3, 4):
            store.unwatch(number)
        self.assertEqual(store.watch(Anything()), (5, ()))

    def test_no_watch(self):
        store = Store(2, 4)
        for number in (0, 1, -1, 10**18):
            self.refuse("NoWatch", store, store.heard, number)
            self.refuse("NoWatch", store, store.unwatch, number)
        store.watch(Anything())
        for number in (1, 2, -1) + NO_NUMBERS:
            self.refuse("NoWatch", store, store.heard, number)
            self.refuse("NoWatch", store, store.unwatch, number)
        self.assertEqual(store.heard(0), ())

    def test_suits_before_and_behind(self):
        store = Store(2, 4)
        store.put(1, BOX, None, 4)
        store.watch(self.NEAR)
        store.watch(Marked(4))
        store.move(1, ((9, 9), (9, 9)))
        store.stamp(1, 0, 7)
        store.stamp(1, 5, 7)
        self.assertEqual((store.heard(0), store.heard(1)), ((), (("went", 1), ("came", 1))))

    def test_at_its_beat(self):
        store = Store(2, 4)
        store.put(1, ((-10, -10), (0, 0)), (5, 0))
        self.assertEqual(store.watch(self.NEAR, 2), (0, (1,)))
        self.assertEqual(store.watch(beat=4, want=self.NEAR), (1, ()))
        self.assertEqual(store.watch(self.NEAR), (2, ()))
        store.move(1, ((-20, -20), (0, 0)), (5, 0))
        self.assertEqual([store.heard(number) for number in range(3)], [(("went", 1),), (("came", 1),), ()])

    def test_the_beat_is_nought_where_left_out(self):
        store = Store(2, 4)
        store.put(1, ((5, 5), (5, 5)), (20, 0))
        self.assertEqual(store.watch(self.NEAR), (0, (1,)))
        store.put(2, ((5, 5), (5, 5)), (20, 0))
        store.put(3, ((-15, -15), (5, 5)), (20, 0))
        self.assertEqual(store.heard(0), (("came", 2),))

    def test_a_refused_deed_is_not_heard(self):
        store = Store(2, 4)
        store.watch(Anything())
        store.put(1, BOX)
        for ask, given in ((store.put, (1, BOX)), (store.take, (2,)), (store.move, (1, SOLID)), (store.stamp, (1, -1, 0))):
            self.assertNotEqual(refusals_of(ask, *given), ())
        self.assertEqual(store.heard(0), (("came", 1),))

    def test_what_happened_before_is_not_heard(self):
        store = Store(2, 4)
        store.put(1, BOX)
        store.take(1)
        self.assertEqual((store.watch(Anything()), store.heard(0)), ((0, ()), ()))

    def test_setting_asking_and_letting_go_are_no_deeds(self):
        store = Store(2, 4)
        store.put(1, BOX)
        before = state_of(store)
        store.watch(Anything())
        store.heard(0)
        store.unwatch(0)
        self.assertEqual(state_of(store), before)

    def test_changed_by_all_that_was_heard(self):
        row = Row(181)
        for count in range(25):
            store, watches = Store(2, 4 + count % 13), {}
            for handle in range(80):
                if row.number(0, 4) == 0:
                    want, beat = mixed_want(row, 2, 2), row.number(0, 5)
                    number, handles = store.watch(want, beat)
                    watches[number] = (want, beat, list(handles))
                known = store.handles()
                kind = row.number(0, 4) if known else 0
                one = known[row.number(0, len(known) - 1)] if known else 0
                thing = row.small_thing(handle, 2)
                box, speeds = tuple(side[:2] for side in thing[1]), tuple(side[2] for side in thing[1])
                if kind < 2:
                    store.put(handle, box, speeds, *thing[2:])
                else:
                    (lambda: store.take(one), lambda: store.move(one, box, speeds), lambda: store.stamp(one, *thing[2:]))[kind - 2]()
                for number, (want, beat, handles) in watches.items():
                    if row.number(0, 3) == 0:
                        for word, heard in store.heard(number):
                            (handles.append if word == "came" else handles.remove)(heard)
                        self.assertEqual(tuple(sorted(handles)), all_that(store.tree_at(), want, beat)[0])


class SideBySide(unittest.TestCase):
    """[10.5]"""

    def test_two_stores(self):
        one, two = Store(2, 4), Store(2, 4)
        one.put(1, BOX)
        self.assertEqual((two.handles(), two.deeds_done(), two.tree_at()), ((), 0, make_leaf(())))
        self.assertEqual(two.watch(Anything()), (0, ()))
        self.assertEqual(refusals_of(one.heard, 0), ("NoWatch",))
        one.put(2, BOX)
        self.assertEqual((two.heard(0), two.put(1, BOX, None, 3), two.heard(0)), ((), 1, (("came", 1),)))
        self.assertEqual(one.thing_of(1), make_thing(1, BOX))
        self.assertEqual(one.watch(Worthy(0)), (0, (1, 2)))
        one.take(1)
        self.assertEqual((one.handles(), two.handles(), one.deeds_done(), two.deeds_done()), ((2,), (1,), 3, 1))
        self.assertEqual((one.heard(0), two.heard(0)), ((("went", 1),), ()))
        one.unwatch(0)
        self.assertEqual((two.heard(0), two.watch(Want())), ((), (1, ())))


if __name__ == "__main__":
    unittest.main()
