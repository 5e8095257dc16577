"""[6.1] and [6.2]: choosing a page, parting a row."""

import unittest

from driftwood.choose import chosen_page, parted
from driftwood.things import make_thing, thing_told, told_poured
from tests.helper import Row, told_plainly

ROOMS = range(4, 17)
PLACE = 10**30


def told(*box, speeds=None):
    return thing_told(make_thing(1, box, speeds))


def rim(one):
    return sum(high - low for low, high, slow, fast in one[0])


def chosen_by_the_words(tolds, added):
    best = 0
    for position, one in enumerate(tolds):
        ranks = [(rim(told_poured(other, added)) - rim(other), rim(other)) for other in (tolds[best], one)]
        if ranks[1] < ranks[0]:
            best = position
    return best


class Chosen(unittest.TestCase):
    """[6.1]"""

    def choose(self, tolds, added, due):
        self.assertEqual(chosen_page(tolds, added), due)
        self.assertEqual(chosen_by_the_words(tolds, added), due)

    def test_one_alone(self):
        self.choose((told((0, 1), (0, 1)),), told((99, 99), (99, 99)), 0)

    def test_what_grows_least(self):
        tolds = (told((0, 4), (0, 4)), told((10, 14), (0, 4)), told((0, 4), (10, 14)))
        self.choose(tolds, told((16, 16), (1, 1)), 1)
        self.choose(tolds, told((1, 1), (16, 16)), 2)
        self.choose(tolds, told((-3, -3), (-3, -3)), 0)
        self.choose(tolds, told((6, 6), (2, 2)), 0)
        self.choose(tolds, told((8, 8), (2, 2)), 1)

    def test_growth_goes_ahead_of_the_rim(self):
        tolds = (told((0, 0), (0, 0)), told((2, 100), (0, 100)))
        self.choose(tolds, told((2, 2), (0, 0)), 1)
        self.choose(tolds, told((1, 1), (0, 0)), 0)

    def test_growth_is_by_sums_not_by_areas(self):
        tolds = (told((0, 100), (0, 1)), told((0, 10), (40, 50)))
        self.choose(tolds, told((0, 0), (21, 21)), 1)
        self.choose(tolds, told((0, 0), (20, 20)), 0)

    def test_three_sides(self):
        tolds = (told((0, 4), (0, 4), (0, 4)), told((0, 4), (0, 4), (9, 12)))
        self.choose(tolds, told((1, 1), (1, 1), (7, 7)), 1)
        self.choose(tolds, told((1, 1), (1, 1), (6, 6)), 0)

    def test_of_those_alike_the_least_ahead(self):
        tolds = (told((0, 9), (0, 9)), told((0, 8), (0, 9)), told((0, 9), (0, 9)))
        self.choose(tolds, told((3, 3), (3, 3)), 1)
        self.choose(tolds[::-1], told((3, 3), (3, 3)), 1)
        self.choose((told((0, 5), (0, 0)), told((8, 9), (0, 0))), told((7, 7), (0, 0)), 1)
        self.choose((told((0, 4), (0, 0)), told((8, 20), (0, 0))), told((6, 6), (0, 0)), 0)
        self.choose((told((8, 20), (0, 0)), told((0, 4), (0, 0))), told((6, 6), (0, 0)), 1)

    def test_of_those_alike_the_first(self):
        box = told((0, 4), (0, 4))
        self.choose((box, box, box), told((3, 3), (3, 3)), 0)
        self.choose((told((0, 9), (0, 9)), box, box, told((0, 4), (0, 4))), told((3, 3), (3, 3)), 1)
        self.choose((told((0, 0), (4, 4)), told((4, 4), (0, 0))), told((2, 2), (2, 2)), 0)

    def test_speeds_are_not_looked_at(self):
        fast, slow = told((0, 4), (0, 4), speeds=(900, -900)), told((0, 5), (0, 4))
        self.choose((slow, fast), told((3, 3), (3, 3)), 1)
        self.choose((slow, fast), told((3, 3), (3, 3), speeds=(-7, 7)), 1)
        mixed = told_poured(told((0, 1), (0, 1), speeds=(10**15, 0)), told((1, 4), (1, 4), speeds=(-10**15, 0)))
        self.choose((slow, mixed), told((3, 3), (3, 3)), 1)

    def test_hearts_are_not_looked_at(self):
        wide = told_poured(told((0, 0), (0, 0)), told((9, 9), (9, 9)))
        self.choose((wide, told((0, 8), (0, 9))), told((3, 3), (3, 3)), 1)
        self.choose((told((0, 9), (0, 10)), wide), told((3, 3), (3, 3)), 1)

    def test_far_places(self):
        tolds = (told((-PLACE, PLACE), (-PLACE, PLACE - 1)), told((-PLACE, PLACE - 1), (-PLACE, PLACE - 1)))
        self.choose(tolds, told((0, 0), (0, 0)), 1)
        self.choose(tolds, told((PLACE, PLACE), (0, 0)), 0)

    def test_mixed(self):
        row = Row(62)
        for count in range(600):
            sides, reach = 2 + count % 2, (3, 20, PLACE)[count % 3]
            tolds = tuple(thing_told(row.thing(k, sides, reach)) for k in range(row.number(1, 16)))
            added = thing_told(row.thing(99, sides, reach))
            self.choose(tolds, added, chosen_by_the_words(tolds, added))

    def test_kinds(self):
        self.assertIs(type(chosen_page((told((0, 1), (0, 1)),), told((0, 1), (0, 1)))), int)


class Parted(unittest.TestCase):
    """[6.2]"""

    def part(self, tolds, room):
        parts = parted(tolds, room)
        self.assertTrue(told_plainly(parts))
        self.assertEqual((type(parts), len(parts)), (tuple, 2))
        for part in parts:
            self.assertEqual(part, tuple(sorted(part)))
            self.assertLessEqual(room // 2, len(part))
            self.assertLessEqual(len(part), room)
        self.assertEqual(sorted(parts[0] + parts[1]), list(range(len(tolds))))
        return parts

    def test_each_length_for_each_room(self):
        row = Row(63)
        for room in ROOMS:
            for many in range(room + 1, 2 * room + 1):
                for sides in (2, 3):
                    self.part(tuple(thing_told(row.thing(k, sides, 99)) for k in range(many)), room)

    def test_all_alike(self):
        for room in ROOMS:
            for many in range(room + 1, 2 * room + 1):
                for box in (((0, 4), (0, 4)), ((1, 1), (2, 2), (3, 3))):
                    self.part((told(*box),) * many, room)

    def test_one_apart_from_all_others(self):
        for room in ROOMS:
            for many in range(room + 1, 2 * room + 1):
                tolds = (told((0, 0), (0, 0)),) * (many - 1) + (told((PLACE, PLACE), (PLACE, PLACE)),)
                self.part(tolds, room)
                self.part(tolds[::-1], room)

    def test_moving_and_poured_tolds(self):
        row = Row(64)
        for room in ROOMS:
            tolds = tuple(
                told_poured(thing_told(row.thing(k, 3, PLACE)), thing_told(row.thing(k, 3, PLACE))) for k in range(room + 1))
            self.part(tolds, room)

    def test_two_heaps_come_apart(self):
        near = [told((k, k), (k, k)) for k in range(4)]
        far = [told((900 + k, 900 + k), (k, k)) for k in range(4)]
        mixed = tuple(one for pair in zip(near, far) for one in pair)
        self.assertEqual(set(self.part(mixed, 5)), {(0, 2, 4, 6), (1, 3, 5, 7)})


if __name__ == "__main__":
    unittest.main()
