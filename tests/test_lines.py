"""[11.3]: what a store holds, written as lines."""

import unittest

from driftwood.lines import store_lines, thing_line
from driftwood.store import Store
from driftwood.talk import Talk
from driftwood.things import make_thing
from tests.helper import Row, told_plainly

BOX = ((-3, 5), (0, 0))
PLACE = 10**30
FIGURES = "1" + "0" * 30


class ThingLine(unittest.TestCase):
    def test_each_just_where_it_is_not_nought(self):
        for speeds, drift in ((None, ""), ((0, 0), ""), ((1, 0), " drift 1,0"), ((0, -2), " drift 0,-2"), ((-7, 4), " drift -7,4")):
            for marks, marked in ((0, ""), (1, " marks 1"), (65535, " marks 65535")):
                for worth, worthy in ((0, ""), (12, " worth 12"), (-5, " worth -5")):
                    self.assertEqual(
                        thing_line(make_thing(40, BOX, speeds, marks, worth)), "put 40 -3..5,0..0" + drift + marked + worthy)

    def test_three_sides(self):
        self.assertEqual(thing_line(make_thing(0, ((1, 2), (-4, -4), (0, 7)))), "put 0 1..2,-4..-4,0..7")
        self.assertEqual(thing_line(make_thing(0, ((0, 0),) * 3, (0, 0, 9))), "put 0 0..0,0..0,0..0 drift 0,0,9")

    def test_many_figures(self):
        thing = make_thing(10**18, ((-PLACE, PLACE), (PLACE, PLACE)), (10**15, -10**15), 65535, -PLACE)
        self.assertEqual(thing_line(thing), (
            f"put 1{'0' * 18} -{FIGURES}..{FIGURES},{FIGURES}..{FIGURES} "
            f"drift 1{'0' * 15},-1{'0' * 15} marks 65535 worth -{FIGURES}"))

    def test_by_the_name_of_what_is_handed_in(self):
        self.assertEqual(thing_line(thing=make_thing(1, BOX)), "put 1 -3..5,0..0")


class StoreLines(unittest.TestCase):
    def test_rising_by_handle(self):
        store = Store(2, 4)
        self.assertEqual(store_lines(store), ())
        for handle in (9, 100, 20, 3):
            store.put(handle, BOX)
        store.stamp(20, 1, 0)
        store.take(3)
        self.assertEqual(store_lines(store=store), (
            "put 9 -3..5,0..0", "put 20 -3..5,0..0 marks 1", "put 100 -3..5,0..0"))
        self.assertTrue(told_plainly(store_lines(store)))
        self.assertEqual(store.deeds_done(), 6)

    def test_talked_to_a_new_store_they_give_the_same_things(self):
        row = Row(190)
        for count in range(30):
            sides = 2 + count % 2
            store, talk = Store(sides, 4 + count % 13), Talk(sides, 4 + count * 5 % 13)
            for handle in range(row.number(0, 40)):
                thing = row.small_thing(handle, sides)
                speeds = tuple(speed * row.number(0, 1) for speed in (side[2] for side in thing[1]))
                box = tuple(side[:2] for side in thing[1])
                store.put(row.number(0, 10**18), box, speeds, thing[2] * row.number(0, 1), thing[3] * row.number(0, 1))
            for number, line in enumerate(store_lines(store), 1):
                self.assertEqual(talk.say(line), f"done {number}")
            other = talk.store_now()
            self.assertEqual(other.handles(), store.handles())
            for handle in store.handles():
                self.assertEqual(other.thing_of(handle), store.thing_of(handle))
            self.assertEqual(store_lines(other), store_lines(store))

    def test_the_ends_of_the_bounds(self):
        store, talk = Store(3, 4), Talk(3, 4)
        for end in (-1, 1):
            store.put(10**18 + (end - 1) // 2, ((end * PLACE, end * PLACE),) * 3, (end * 10**15,) * 3, 65535, end * PLACE)
        for line in store_lines(store):
            self.assertTrue(talk.say(line).startswith("done "))
        self.assertEqual(store_lines(talk.store_now()), store_lines(store))


if __name__ == "__main__":
    unittest.main()
