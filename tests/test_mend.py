"""[6.4]: taking; and [6.5], of puts and takings."""

import unittest

from driftwood.grow import put_thing
from driftwood.laying import laid_tree
from driftwood.mend import take_thing
from driftwood.pages import make_fork, make_leaf, things_in, tree_ills
from driftwood.things import make_thing
from tests.helper import Row, height_of, ills_by_the_words, most_anew, refusals_of, told_plainly

ROOMS = range(4, 17)
PLACE = 10**30


def grown_tree(things, room):
    top = make_leaf(())
    for thing in things:
        top = put_thing(top, room, thing)
    return top


def thinnest_tree(row, room, high):
    """Each page as thin as a healthy tree allows; the top has two pages."""
    fewest = room // 2
    many = 2 * fewest**(high - 1)
    pages = [make_leaf(tuple(row.thing(k * fewest + j, 2, 9999) for j in range(fewest))) for k in range(many)]
    while len(pages) > 2:
        pages = [make_fork(tuple(pages[k:k + fewest])) for k in range(0, len(pages), fewest)]
    return make_fork(tuple(pages))


class Mending(unittest.TestCase):
    def healthy(self, old, new, room, things):
        self.assertEqual(tree_ills(new, room), ())
        self.assertEqual(sorted(things_in(new)), sorted(things))
        self.assertLessEqual(most_anew(old, new), 2)
        return new

    def take(self, top, room, thing):
        left = [one for one in things_in(top) if one != thing]
        return self.healthy(top, take_thing(top, room, thing), room, left)

    def put(self, top, room, thing):
        return self.healthy(top, put_thing(top, room, thing), room, things_in(top) + (thing,))


class Taking(Mending):
    """[6.4], and [6.5] each time"""

    def test_from_a_leaf(self):
        things = tuple(make_thing(k, ((k, k + 2), (0, 3)), (k, -k), k, -k) for k in range(4))
        for room in ROOMS:
            for many in range(1, 5):
                for thing in things[:many]:
                    new = self.take(make_leaf(things[:many]), room, thing)
                    self.assertEqual(new[0], "leaf")

    def test_the_last_thing(self):
        thing = make_thing(3, ((0, 1), (0, 1), (5, 5)))
        self.assertEqual(take_thing(make_leaf((thing,)), 4, thing), make_leaf(()))

    def test_each_thing_of_a_tree(self):
        row = Row(80)
        for room in ROOMS:
            for many in (room + 1, 3 * room, 6 * room):
                things = tuple(row.thing(k, 2 + room % 2, 999) for k in range(many))
                for top in (laid_tree(things, room), grown_tree(things, room)):
                    for thing in things:
                        self.take(top, room, thing)

    def test_until_none_is_left(self):
        row = Row(81)
        for room in ROOMS:
            for reach in (3, 10**5, PLACE // 2):
                things = tuple(row.thing(k, 2 + room % 2, reach) for k in range(90))
                top = laid_tree(things, room) if reach == 3 else grown_tree(things, room)
                for thing in row.mixed(things):
                    top = self.take(top, room, thing)
                self.assertEqual(top, make_leaf(()))

    def test_in_the_order_in_which_they_were_put(self):
        row = Row(82)
        for room in (4, 5, 7, 10, 16):
            things = tuple(row.thing(k, 2, 500) for k in range(120))
            for order in (things, things[::-1], sorted(things, key=lambda thing: thing[1])):
                top = grown_tree(things, room)
                for thing in order:
                    top = self.take(top, room, thing)
                self.assertEqual(top, make_leaf(()))

    def test_all_alike_but_their_handles(self):
        for room in ROOMS:
            things = [make_thing(k, ((3, 3), (3, 3))) for k in range(70)]
            top = grown_tree(things, room)
            for k in range(70):
                top = self.take(top, room, things[k * 13 % 70])
            self.assertEqual(top, make_leaf(()))

    def test_the_thinnest_trees(self):
        row = Row(83)
        for room, high in ((4, 5), (5, 4), (6, 3), (7, 3), (8, 3), (9, 2), (12, 2), (13, 2), (16, 2)):
            top = thinnest_tree(row, room, high)
            self.assertEqual((tree_ills(top, room), height_of(top)), ((), high))
            for thing in things_in(top)[::3]:
                self.assertEqual(height_of(self.take(top, room, thing)), high - 1)

    def test_a_thin_page_beside_full_ones(self):
        row = Row(84)
        for room in ROOMS:
            for full in (room - 1, room):
                thin = make_leaf(tuple(row.thing(k, 2, 99) for k in range(room // 2)))
                wide = make_leaf(tuple(row.thing(100 + k, 2, 99) for k in range(full)))
                for pages in ((thin, wide), (wide, thin), (thin, wide, make_leaf(tuple(row.thing(200 + k, 2, 9) for k in range(room))))):
                    for thing in things_in(thin):
                        self.take(make_fork(pages), room, thing)

    def test_thin_forks_beside_full_ones(self):
        row = Row(85)
        for room in (4, 5, 6, 7, 9):
            fewest = room // 2
            leaves = [make_leaf(tuple(row.thing(100 * j + k, 3, 99) for k in range(fewest))) for j in range(fewest + room)]
            thin, wide = make_fork(tuple(leaves[:fewest])), make_fork(tuple(leaves[fewest:]))
            for pages in ((thin, wide), (wide, thin)):
                for thing in things_in(thin):
                    self.take(make_fork(pages), room, thing)

    def test_a_thousand(self):
        row = Row(86)
        for room in (4, 15):
            things = tuple(row.thing(k, 3, 10**6) for k in range(1000))
            top = laid_tree(things, room)
            for count, thing in enumerate(row.mixed(things)):
                new = take_thing(top, room, thing)
                if count % 50 == 0:
                    self.assertEqual(ills_by_the_words(new, room), {})
                    self.assertEqual(sorted(things_in(new) + (thing,)), sorted(things_in(top)))
                    self.assertLessEqual(most_anew(top, new), 2)
                top = new
            self.assertEqual(top, make_leaf(()))

    def test_the_old_tree_stays(self):
        row = Row(87)
        things = tuple(row.thing(k, 2, 99) for k in range(40))
        top = laid_tree(things, 4)
        before = repr(top)
        for thing in things:
            self.assertTrue(told_plainly(take_thing(top, 4, thing)))
        self.assertEqual(repr(top), before)


class Refused(unittest.TestCase):
    """[6.4]"""

    def refuse(self, top, room, thing):
        self.assertEqual(refusals_of(take_thing, top, room, thing), ("NoHandle",))

    def test_a_tree_without_things(self):
        for room in ROOMS:
            self.refuse(make_leaf(()), room, make_thing(1, ((0, 1), (0, 1))))

    def test_one_part_is_another(self):
        row = Row(88)
        for many in (1, 4, 5, 90):
            for sides in (2, 3):
                things = tuple(row.thing(2 * k, sides, 99) for k in range(many))
                top = laid_tree(things, 4)
                for handle, swath, marks, worth in things[::7]:
                    self.refuse(top, 4, (handle + 1, swath, marks, worth))
                    self.refuse(top, 4, (handle, swath, marks ^ 4, worth))
                    self.refuse(top, 4, (handle, swath, marks, worth - 1))
                    for side in range(sides):
                        low, high, slow, fast = swath[side]
                        for other in ((low - 1, high, slow, fast), (low, high + 1, slow, fast), (low, high, slow + 1, fast + 1)):
                            self.refuse(top, 4, (handle, swath[:side] + (other,) + swath[side + 1:], marks, worth))

    def test_a_thing_that_the_covers_would_hold(self):
        things = tuple(make_thing(k, ((k, k + 1), (k, k + 1))) for k in range(50))
        top = laid_tree(things, 4)
        for k in range(49):
            self.refuse(top, 4, make_thing(k, ((k, k), (k, k))))
            self.refuse(top, 4, make_thing(100, ((k, k + 1), (k, k + 1))))

    def test_a_thing_taken_before(self):
        row = Row(89)
        things = tuple(row.thing(k, 2, 99) for k in range(30))
        top = take_thing(laid_tree(things, 5), 5, things[7])
        self.refuse(top, 5, things[7])


class Mixed(Mending):
    """[6.3], [6.4] and [6.5] with puts and takings mixed"""

    def test_puts_and_takings_mixed(self):
        row = Row(90)
        for room in ROOMS:
            top, here = make_leaf(()), []
            for handle in range(260):
                grows = handle < 100 or handle > 200 and row.number(0, 1)
                if not here or row.number(0, 3) < (3 if grows else 1):
                    here.append(row.thing(handle, 3 - room % 2, (9, 10**4)[room % 2]))
                    top = self.put(top, room, here[-1])
                else:
                    top = self.take(top, room, here.pop(row.number(0, len(here) - 1)))
                self.assertEqual(sorted(things_in(top)), sorted(here))

    def test_deep_trees(self):
        row = Row(91)
        for room in (4, 5):
            top = laid_tree(tuple(row.thing(k, 2, 10**4) for k in range(600)), room)
            for handle in range(600, 640):
                top = self.put(top, room, row.thing(handle, 2, 10**4))
                things = things_in(top)
                for _ in range(2):
                    thing = things[row.number(0, len(things) - 1)]
                    top = self.take(top, room, thing)
                    things = things_in(top)
            self.assertGreater(height_of(top), 3)

    def test_take_and_put_back(self):
        row = Row(92)
        for room in ROOMS:
            things = tuple(row.thing(k, 2, 99) for k in range(100))
            top = laid_tree(things, room)
            for thing in things:
                top = self.put(self.take(top, room, thing), room, thing)


if __name__ == "__main__":
    unittest.main()
