"""[5.1] to [5.4]: pages."""

import unittest

from driftwood.laying import laid_tree
from driftwood.pages import make_fork, make_leaf, page_at, page_height, paths_in, things_in, tree_ills
from driftwood.things import make_thing, thing_told, tolds_poured
from tests.helper import Row, height_of, ills_by_the_words, pages_beneath, refusals_of, told_plainly

ROOMS = range(4, 17)


def thing(handle, sides=2):
    return make_thing(
        handle, tuple((handle + k, 2 * handle + k) for k in range(sides)), (handle - 5,) * sides, 3 * handle, -handle)


def leaf(*handles):
    return make_leaf(tuple(thing(handle) for handle in handles))


def told_of(*handles):
    return tolds_poured(tuple(thing_told(thing(handle)) for handle in handles))


# A tree of unlike heights: a leaf, a fork of leaves (one without things), a fork of a fork.
MIXED = make_fork((
    leaf(9, 3), make_fork((leaf(), leaf(1), leaf(7, 5, 2))), make_fork((make_fork((leaf(4), leaf(8, 6))),))))


class Making(unittest.TestCase):
    """[5.1]"""

    def test_a_leaf(self):
        things = (thing(9), thing(3), thing(5))
        self.assertEqual(make_leaf(things), ("leaf", told_of(9, 3, 5), things))
        self.assertEqual(make_leaf(things[:1]), ("leaf", thing_told(thing(9)), things[:1]))
        solid = (thing(1, 3), thing(2, 3))
        self.assertEqual(make_leaf(solid), ("leaf", tolds_poured((thing_told(solid[0]), thing_told(solid[1]))), solid))

    def test_a_leaf_without_things(self):
        self.assertEqual(make_leaf(()), ("leaf", None, ()))

    def test_a_fork(self):
        pages = (leaf(9, 3), leaf(1), leaf(5, 2))
        self.assertEqual(make_fork(pages), ("fork", told_of(9, 3, 1, 5, 2), pages))
        self.assertEqual(make_fork(pages[:1]), ("fork", told_of(9, 3), pages[:1]))

    def test_a_fork_with_leaves_without_things(self):
        pages = (leaf(), leaf(1), leaf())
        self.assertEqual(make_fork(pages), ("fork", told_of(1), pages))
        self.assertEqual(make_fork((leaf(), leaf())), ("fork", None, (leaf(), leaf())))

    def test_forks_of_forks(self):
        self.assertEqual(MIXED[1], told_of(*range(1, 10)))
        self.assertEqual(MIXED[2][2][1], told_of(4, 8, 6))

    def test_a_fork_pours_the_tolds_as_they_stand(self):
        spoiled = ("leaf", told_of(1, 2, 3), ())
        self.assertEqual(make_fork((spoiled, leaf(4))), ("fork", told_of(1, 2, 3, 4), (spoiled, leaf(4))))

    def test_the_things_beneath(self):
        self.assertEqual(things_in(leaf()), ())
        self.assertEqual(things_in(leaf(9, 3)), (thing(9), thing(3)))
        self.assertEqual(things_in(MIXED), tuple(thing(handle) for handle in (9, 3, 1, 7, 5, 2, 4, 8, 6)))
        self.assertEqual(things_in(MIXED[2][2]), (thing(4), thing(8), thing(6)))
        self.assertEqual(things_in(make_fork((leaf(), leaf()))), ())

    def test_kinds(self):
        self.assertTrue(told_plainly(MIXED))
        self.assertTrue(told_plainly(things_in(MIXED)))
        self.assertTrue(told_plainly(leaf()))


class Paths(unittest.TestCase):
    """[5.2]"""

    def test_all_paths_in_their_order(self):
        self.assertEqual(paths_in(MIXED), (
            (), (0,), (1,), (1, 0), (1, 1), (1, 2), (2,), (2, 0), (2, 0, 0), (2, 0, 1)))
        self.assertEqual(paths_in(leaf()), ((),))
        self.assertEqual(paths_in(leaf(1, 2)), ((),))

    def test_more_than_ten_pages_go_by_number(self):
        top = make_fork(tuple(leaf(k) for k in range(12)))
        self.assertEqual(paths_in(top), ((),) + tuple((k,) for k in range(12)))

    def test_the_page_at_each(self):
        self.assertEqual(page_at(MIXED, ()), MIXED)
        self.assertEqual(page_at(MIXED, (0,)), leaf(9, 3))
        self.assertEqual(page_at(MIXED, (1, 0)), leaf())
        self.assertEqual(page_at(MIXED, (1, 2)), leaf(7, 5, 2))
        self.assertEqual(page_at(MIXED, (2, 0, 1)), leaf(8, 6))
        self.assertEqual(page_at(leaf(1), ()), leaf(1))

    def test_paths_and_pages_of_a_laid_tree(self):
        row = Row(52)
        top = laid_tree(tuple(row.thing(k, 2, 99) for k in range(300)), 5)
        pairs = list(pages_beneath(top))
        self.assertEqual(paths_in(top), tuple(path for path, page in pairs))
        self.assertEqual(paths_in(top), tuple(sorted(paths_in(top))))
        for path, page in pairs:
            self.assertEqual(page_at(top, path), page)

    def test_where_no_page_stands(self):
        for path in ((-1,), (3,), (10**20,), (-3,), (-10**20,), (1, -1), (1, 3), (2, 1), (2, -1), (2, 0, 2), (2, 0, -1),
                     (2, 0, -2), (0, 0), (0, -1), (0, 1), (1, 0, 0), (1, 2, 0), (1, 2, 2), (2, 0, 0, 0), (3, 0), (-1, 0),
                     (0, 0, 0, 0)):
            self.assertEqual(refusals_of(page_at, MIXED, path), ("NoPath",), path)
        for path in ((0,), (-1,), (1,), (0, 0)):
            self.assertEqual(refusals_of(page_at, leaf(1, 2), path), ("NoPath",))
            self.assertEqual(refusals_of(page_at, leaf(), path), ("NoPath",))

    def test_kinds(self):
        self.assertTrue(told_plainly(paths_in(MIXED)))
        self.assertIs(type(paths_in(MIXED)), tuple)


class Heights(unittest.TestCase):
    """[5.3]"""

    def test_heights(self):
        self.assertEqual(page_height(leaf()), 0)
        self.assertEqual(page_height(leaf(1, 2)), 0)
        self.assertEqual(page_height(make_fork((leaf(1), leaf(2)))), 1)

    def test_by_the_first_page(self):
        self.assertEqual(page_height(MIXED), 1)
        self.assertEqual(page_height(MIXED[2][2]), 2)
        self.assertEqual(page_height(make_fork(MIXED[2][::-1])), 3)

    def test_twelve_high(self):
        top = leaf(1)
        for height in range(1, 13):
            top = make_fork((top, leaf(2)))
            self.assertEqual(page_height(top), height)


def spoiled_tolds(told):
    """The told with each of its numbers changed by itself, and with its frames turned about."""
    for place in range(2):
        for side, k in ((side, k) for side in range(len(told[place])) for k in range(4)):
            for step in (-1, 1):
                sides = [list(one) for one in told[place]]
                sides[side][k] += step
                frame = tuple(tuple(one) for one in sides)
                yield told[:place] + (frame,) + told[place + 1:]
    for place in range(2, 8):
        for step in (-1, 1):
            yield told[:place] + (told[place] + step,) + told[place + 1:]
    yield told[1::-1] + told[2:]


class Ills(unittest.TestCase):
    """[5.4]"""

    def ills(self, top, room, *paths):
        self.assertEqual(tree_ills(top, room), paths)
        self.assertEqual(tuple(ills_by_the_words(top, room)), paths)

    def tree(self, room, many):
        """Healthy: forks and leaves two high, each with so many parts."""
        leaves = [make_leaf(tuple(thing(k * many + j) for j in range(many))) for k in range(many * many)]
        return make_fork(tuple(make_fork(tuple(leaves[k * many:(k + 1) * many])) for k in range(many)))

    def test_healthy_trees(self):
        for room in ROOMS:
            for many in (room // 2, room):
                self.ills(self.tree(room, many), room)
            self.ills(make_leaf(()), room)
            self.ills(leaf(1), room)
            self.ills(leaf(*range(room)), room)

    def test_told_of_a_leaf_spoiled(self):
        for page in (leaf(5), leaf(9, 3, 5), make_leaf((thing(9, 3), thing(4, 3)))):
            for told in spoiled_tolds(page[1]):
                if told != page[1]:
                    self.ills(("leaf", told, page[2]), 4, ())

    def test_told_of_a_fork_spoiled(self):
        pages = (leaf(9, 3), leaf(1, 5))
        for told in spoiled_tolds(make_fork(pages)[1]):
            self.ills(("fork", told, pages), 4, ())

    def test_none_in_a_tolds_place(self):
        self.ills(("leaf", None, (thing(1), thing(2))), 4, ())
        self.ills(("fork", None, (leaf(1, 2), leaf(3, 4))), 4, ())

    def test_a_told_in_nones_place(self):
        self.ills(("leaf", told_of(1), ()), 4, ())
        self.ills(("fork", told_of(1), (leaf(), leaf())), 4, (), (0,), (1,))

    def test_a_spoiled_told_beneath_right_ones(self):
        spoiled = ("leaf", told_of(1, 3), (thing(1), thing(2)))
        pages = (leaf(4, 5), spoiled)
        # The fork is right, for it pours its pages' tolds as they stand.
        self.ills(make_fork(pages), 4, (1,))
        self.ills(("fork", told_of(4, 5, 1, 2), pages), 4, (), (1,))

    def test_a_leaf_with_none_beneath_forks(self):
        pages = (leaf(4, 5), ("leaf", None, (thing(1), thing(2))))
        self.ills(make_fork(pages), 4, (1,))
        self.ills(("fork", told_of(4, 5, 1, 2), pages), 4, (), (1,))

    def test_too_many(self):
        for room in ROOMS:
            full, over = leaf(*range(room)), leaf(*range(room + 1))
            self.ills(full, room)
            self.ills(over, room, ())
            self.ills(make_fork((full, over, full)), room, (1,))
            self.ills(make_fork((full,) * room), room)
            self.ills(make_fork((full,) * (room + 1)), room, ())
            self.ills(make_fork((make_fork((full,) * room), make_fork((full,) * (room + 1)))), room, (1,))

    def test_too_few(self):
        for room in ROOMS:
            enough, under = leaf(*range(room // 2)), leaf(*range(room // 2 - 1))
            self.ills(enough, room)
            self.ills(under, room)
            self.ills(make_fork((enough, enough)), room)
            self.ills(make_fork((enough, under)), room, (1,))
            self.ills(make_fork((leaf(), enough)), room, (0,))
            self.ills(make_fork((enough,)), room, ())
            slim = make_fork((enough,) * (room // 2 - 1))
            broad = make_fork((enough,) * (room // 2))
            self.ills(broad, room)
            self.ills(make_fork((broad, broad)), room)
            self.ills(make_fork((broad, slim)), room, (1,))
            self.ills(slim, room, *([()] if room // 2 - 1 < 2 else []))

    def test_a_fork_of_one_page(self):
        one = make_fork((leaf(1, 2),))
        self.ills(one, 4, ())
        self.ills(make_fork((one, one)), 4, (0,), (1,))
        self.ills(make_fork((one,)), 4, (), (0,))

    def test_unlike_heights(self):
        low, high = leaf(1, 2), make_fork((leaf(3, 4), leaf(5, 6)))
        self.ills(make_fork((low, high)), 4, ())
        self.ills(make_fork((high, low)), 4, ())
        self.ills(make_fork((high, high, low)), 4, ())
        self.ills(make_fork((high, high)), 4)
        uneven = make_fork((low, high))
        # Its height goes by its first page, so beside another fork of leaves the one above is not ill.
        self.ills(make_fork((high, uneven)), 4, (1,))
        self.ills(make_fork((high, make_fork((high, low)))), 4, (), (1,))

    def test_several_at_once(self):
        self.ills(MIXED, 4, (), (1, 0), (1, 1), (2,), (2, 0, 0))
        self.ills(MIXED, 6, (), (0,), (1, 0), (1, 1), (2,), (2, 0), (2, 0, 0), (2, 0, 1))

    def test_the_letters_come_alone_and_together(self):
        letters = set()
        for top in mixed_trees(Row(54), 800):
            for room in (4, 5, 8, 11):
                ills = ills_by_the_words(top, room)
                letters |= set(ills.values())
                self.assertEqual(tree_ills(top, room), tuple(ills))
        self.assertLessEqual({"a", "b", "c", "d", "ab", "ac", "ad", "bd", "cd", "abd", "acd"}, letters)

    def test_twelve_high(self):
        top = leaf(1, 2)
        for _ in range(12):
            top = make_fork((top, top))
            if height_of(top) > 6:
                top = make_fork(top[2][:1])
        self.assertEqual(height_of(top), 12)
        self.assertEqual(tree_ills(top, 4), tuple(ills_by_the_words(top, 4)))

    def test_kinds(self):
        self.assertTrue(told_plainly(tree_ills(MIXED, 4)))
        self.assertEqual(tree_ills(leaf(1), 4), ())


def mixed_page(row, height):
    many = row.number(0, 13) if row.number(0, 3) else row.number(2, 5)
    if height == 0 or row.number(0, 9) == 0:
        page = make_leaf(tuple(thing(row.number(0, 99)) for _ in range(many)))
    else:
        page = make_fork(tuple(mixed_page(row, height - 1) for _ in range(max(many // height, 1))))
    if row.number(0, 7) == 0:
        told = told_of(row.number(0, 9)) if row.number(0, 1) else None
        return (page[0], told, page[2])
    return page


def mixed_trees(row, many):
    for count in range(many):
        yield mixed_page(row, count % 4)


if __name__ == "__main__":
    unittest.main()
