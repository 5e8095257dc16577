"""[5.5]: laying."""

import unittest

from driftwood.laying import laid_tree, laying_key
from driftwood.pages import things_in, tree_ills
from driftwood.things import make_thing
from driftwood.weave import woven
from tests.helper import Row, ills_by_the_words, told_plainly

PLACE = 10**30
ROOMS = range(4, 17)


def key_by_the_words(thing):
    point = [(low + high) // 2 + PLACE for low, high, slow, fast in thing[1]]
    sides = len(point)
    return sum(
        2 ** (k * sides + sides - 1 - side) for side in range(sides) for k in range(102) if point[side] >> k & 1)


class Keys(unittest.TestCase):
    def key(self, box, point):
        self.assertEqual(laying_key(make_thing(1, box)), woven(point, 102))
        self.assertEqual(laying_key(make_thing(1, box)), key_by_the_words(make_thing(1, box)))

    def test_the_middle(self):
        self.key(((0, 4), (-2, 8)), (PLACE + 2, PLACE + 3))
        self.key(((0, 4), (-2, 8), (7, 7)), (PLACE + 2, PLACE + 3, PLACE + 7))

    def test_halves_are_rounded_down(self):
        self.key(((0, 5), (-5, 0)), (PLACE + 2, PLACE - 3))
        self.key(((-1, 0), (0, 1)), (PLACE - 1, PLACE))
        self.key(((-2, -1), (-3, 2), (3, 4)), (PLACE - 2, PLACE - 1, PLACE + 3))

    def test_far_places(self):
        self.key(((-PLACE, -PLACE), (PLACE, PLACE)), (0, 2 * PLACE))
        self.key(((PLACE, PLACE),) * 3, (2 * PLACE,) * 3)
        self.key(((-PLACE, PLACE), (-PLACE, 1 - PLACE), (PLACE - 1, PLACE)), (PLACE, 0, 2 * PLACE - 1))
        self.assertEqual(laying_key(make_thing(1, ((-PLACE, -PLACE),) * 2)), 0)

    def test_the_first_side_weighs_most(self):
        self.assertEqual(laying_key(make_thing(1, ((1 - PLACE, 1 - PLACE), (-PLACE, -PLACE)))), 2)
        self.assertEqual(laying_key(make_thing(1, ((-PLACE, -PLACE), (1 - PLACE, 1 - PLACE)))), 1)
        self.assertEqual(laying_key(make_thing(1, ((1 - PLACE, 1 - PLACE),) + ((-PLACE, -PLACE),) * 2)), 4)

    def test_nothing_else_counts(self):
        box = ((0, 4), (-2, 8))
        self.assertEqual(laying_key(make_thing(1, box)), laying_key(make_thing(2, box, (5, -9), 77, 12)))
        self.assertEqual(laying_key(make_thing(1, box)), laying_key(make_thing(1, ((2, 2), (3, 3)))))

    def test_mixed(self):
        row = Row(55)
        for count in range(100):
            box = row.box(2 + count % 2, PLACE)
            thing = make_thing(count, box)
            self.assertEqual(laying_key(thing), key_by_the_words(thing))

    def test_kinds(self):
        self.assertIs(type(laying_key(make_thing(1, ((0, 4), (-2, 8))))), int)


class Trees(unittest.TestCase):
    def lay(self, things, room):
        top = laid_tree(things, room)
        self.assertEqual(tree_ills(top, room), ())
        self.assertEqual(ills_by_the_words(top, room), {})
        due = tuple(sorted(things, key=lambda thing: (laying_key(thing), thing[0])))
        self.assertEqual(things_in(top), due)
        return top

    def test_no_things(self):
        for room in ROOMS:
            self.assertEqual(laid_tree((), room), ("leaf", None, ()))

    def test_counts_round_the_room(self):
        row = Row(56)
        for room in ROOMS:
            counts = {1, 2, 3, room // 2, room - 1, room, room + 1, room + 2, 2 * room - 1, 2 * room, 2 * room + 1}
            counts |= {room * room - 1, room * room, room * room + 1, room * room + room}
            for many in sorted(counts):
                things = tuple(row.thing(k, 2 + many % 2, 10**6) for k in range(many))
                top = self.lay(row.mixed(things), room)
                self.assertEqual(top[0] == "leaf", many <= room)

    def test_each_count_to_three_hundred(self):
        row = Row(57)
        things = tuple(row.thing(k, 2, 10**6) for k in range(300))
        for many in range(300):
            self.assertEqual(tree_ills(laid_tree(things[:many], 4 + many % 13), 4 + many % 13), ())

    def test_a_thousand(self):
        row = Row(58)
        for sides in (2, 3):
            things = row.mixed([row.thing(k, sides, PLACE // 2) for k in range(1000)])
            for room in (4, 5, 7, 10, 16):
                self.lay(things, room)

    def test_like_keys_by_handle(self):
        row = Row(59)
        handles = [10**18, 0, 77, 5, 12345, 9, 8, 10, 100, 99, 1, 2]
        things = tuple(make_thing(handle, ((0, 4 + k % 2), (0, 0)), (k, 0), k, k) for k, handle in enumerate(handles))
        top = self.lay(things, 4)
        self.assertEqual([thing[0] for thing in things_in(top)], sorted(handles))
        alike = tuple(make_thing(handle, ((3, 3),) * 3) for handle in range(200))
        self.assertEqual([thing[0] for thing in things_in(self.lay(row.mixed(alike), 5))], list(range(200)))

    def test_by_key_and_not_by_handle(self):
        things = tuple(make_thing(handle, ((-handle, -handle), (0, 0))) for handle in range(50))
        self.assertEqual([thing[0] for thing in things_in(self.lay(things, 6))][-1], 0)

    def test_in_any_order_the_same(self):
        row = Row(60)
        things = tuple(row.thing(k, 3, 99) for k in range(40))
        self.assertEqual(laid_tree(row.mixed(things), 6), laid_tree(things, 6))

    def test_kinds(self):
        row = Row(61)
        self.assertTrue(told_plainly(laid_tree(tuple(row.thing(k, 3, 99) for k in range(40)), 6)))


if __name__ == "__main__":
    unittest.main()
