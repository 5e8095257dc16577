"""[6.3]: putting; and of [6.5] what it says of a put."""

import unittest

from driftwood.grow import put_thing
from driftwood.laying import laid_tree
from driftwood.pages import make_fork, make_leaf, things_in, tree_ills
from driftwood.things import make_thing
from tests.helper import Row, height_of, ills_by_the_words, most_anew, told_plainly

ROOMS = range(4, 17)
PLACE = 10**30


class Putting(unittest.TestCase):
    def put(self, top, room, thing):
        new = put_thing(top, room, thing)
        self.assertEqual(tree_ills(new, room), ())
        self.assertEqual(sorted(things_in(new)), sorted(things_in(top) + (thing,)))
        return new

    def test_an_empty_tree(self):
        for room in ROOMS:
            thing = make_thing(7, ((0, 4), (0, 4)), (1, 2), 3, 4)
            self.assertEqual(self.put(make_leaf(()), room, thing), make_leaf((thing,)))

    def test_a_leaf_with_room(self):
        row = Row(65)
        for room in ROOMS:
            things = tuple(row.thing(k, 3, 99) for k in range(room))
            new = self.put(make_leaf(things[1:]), room, things[0])
            self.assertEqual(new[0], "leaf")

    def test_a_full_leaf(self):
        row = Row(66)
        for room in ROOMS:
            things = tuple(row.thing(k, 2, 99) for k in range(room + 1))
            new = self.put(make_leaf(things[1:]), room, things[0])
            self.assertEqual((new[0], len(new[2]), height_of(new)), ("fork", 2, 1))

    def full_tree(self, row, room, high):
        """Each page as full as can be."""
        pages = [
            make_leaf(tuple(row.thing(k * room + j, 2, 9999) for j in range(room))) for k in range(room**high)]
        while len(pages) > 1:
            pages = [make_fork(tuple(pages[k:k + room])) for k in range(0, len(pages), room)]
        return pages[0]

    def test_full_forks(self):
        row = Row(67)
        for room, high in ((4, 1), (4, 2), (4, 3), (5, 2), (6, 2), (7, 1), (9, 2), (12, 1), (16, 1)):
            top = self.full_tree(row, room, high)
            self.assertEqual(tree_ills(top, room), ())
            new = self.put(top, room, row.thing(10**9, 2, 9999))
            self.assertEqual(height_of(new), high + 1)
            self.assertEqual(len(new[2]), 2)
            self.assertLessEqual(most_anew(top, new), 2)

    def test_many_one_after_another(self):
        row = Row(68)
        for room in ROOMS:
            top = make_leaf(())
            for handle in range(150):
                new = self.put(top, room, row.thing(handle, 2 + room % 2, (5, 10**4, PLACE // 2)[room % 3]))
                if handle % 10 == 0:
                    self.assertEqual(ills_by_the_words(new, room), {})
                    self.assertLessEqual(most_anew(top, new), 2)
                top = new
            self.assertGreater(height_of(top), 0)

    def test_a_thousand(self):
        row = Row(69)
        for room in (4, 16):
            top = make_leaf(())
            for handle in range(1000):
                top = put_thing(top, room, row.thing(handle, 3, 10**6))
                if handle % 50 == 49:
                    self.assertEqual(tree_ills(top, room), ())
            self.assertEqual(sorted(thing[0] for thing in things_in(top)), list(range(1000)))
            self.assertEqual(ills_by_the_words(top, room), {})

    def test_all_alike(self):
        for room in ROOMS:
            top = make_leaf(())
            for handle in range(100):
                top = self.put(top, room, make_thing(handle, ((3, 3), (3, 3), (3, 3))))

    def test_along_a_line(self):
        for room in (4, 5, 9, 16):
            for step in (1, -1):
                top = make_leaf(())
                for handle in range(120):
                    top = self.put(top, room, make_thing(handle, ((step * handle, step * handle), (0, 0))))

    def test_to_a_laid_tree(self):
        row = Row(70)
        for room in ROOMS:
            top = laid_tree(tuple(row.thing(k, 2, 999) for k in range(200)), room)
            for handle in range(200, 230):
                new = self.put(top, room, row.thing(handle, 2, 999))
                self.assertLessEqual(most_anew(top, new), 2)
                top = new

    def test_the_old_tree_stays(self):
        row = Row(71)
        top = laid_tree(tuple(row.thing(k, 2, 99) for k in range(16)), 4)
        before = repr(top)
        self.put(top, 4, row.thing(99, 2, 99))
        self.assertEqual(repr(top), before)

    def test_to_the_page_that_it_stirs_least(self):
        left = make_leaf(tuple(make_thing(k, ((k, k), (0, 0))) for k in range(3)))
        right = make_leaf(tuple(make_thing(k, ((k, k), (0, 0))) for k in range(90, 93)))
        thing = make_thing(50, ((80, 80), (0, 0)))
        self.assertEqual([len(page[2]) for page in self.put(make_fork((left, right)), 5, thing)[2]], [3, 4])

    def test_kinds(self):
        row = Row(72)
        top = make_leaf(())
        for handle in range(40):
            top = put_thing(top, 4, row.thing(handle, 3, 99))
        self.assertTrue(told_plainly(top))


if __name__ == "__main__":
    unittest.main()
