"""[1.1] to [1.5]: boxes."""

import unittest
from itertools import product

from driftwood.boxes import (
    box_common, box_cover, box_gap, box_inside, box_of, box_rim, boxes_meet, near_points)
from tests.helper import Row, points_of, small_sides, squared, told_plainly

FAR = 2 * 10**30
SMALL_BOXES = list(product(small_sides(-1, 2), repeat=2))


class TwoPointsCoverRim(unittest.TestCase):
    """[1.1]"""

    def test_box_of_two_sides(self):
        self.assertEqual(box_of((1, 9), (4, 2)), ((1, 4), (2, 9)))

    def test_box_of_three_sides(self):
        self.assertEqual(box_of((1, -9, 0), (-4, 2, 7)), ((-4, 1), (-9, 2), (0, 7)))

    def test_points_alike_at_a_side(self):
        self.assertEqual(box_of((3, 5), (3, 8)), ((3, 3), (5, 8)))
        self.assertEqual(box_of((3, 5, -1), (3, 5, -1)), ((3, 3), (5, 5), (-1, -1)))

    def test_the_two_points_turned_about(self):
        row = Row(11)
        for count in range(300):
            sides = 2 + count % 2
            one, two = row.point(sides, 9), row.point(sides, 9)
            box = box_of(one, two)
            self.assertEqual(box, box_of(two, one))
            self.assertEqual(box, tuple(tuple(sorted(pair)) for pair in zip(one, two)))

    def test_box_of_far_points(self):
        self.assertEqual(box_of((FAR, -FAR), (-FAR, FAR - 1)), ((-FAR, FAR), (-FAR, FAR - 1)))

    def test_cover(self):
        self.assertEqual(box_cover(((0, 4), (2, 3)), ((-1, 2), (5, 9))), ((-1, 4), (2, 9)))
        self.assertEqual(
            box_cover(((0, 4), (2, 3), (1, 1)), ((5, 6), (0, 9), (1, 1))), ((0, 6), (0, 9), (1, 1)))

    def test_cover_is_the_least_box_in_which_both_lie(self):
        for one, two in product(SMALL_BOXES, repeat=2):
            points = points_of(one) | points_of(two)
            ends = tuple((min(numbers), max(numbers)) for numbers in zip(*points))
            self.assertEqual(box_cover(one, two), ends)

    def test_rim(self):
        self.assertEqual(box_rim(((0, 4), (2, 3))), 5)
        self.assertEqual(box_rim(((-7, -4), (-2, 3), (10, 20))), 18)
        self.assertEqual(box_rim(((6, 6), (7, 7))), 0)
        self.assertEqual(box_rim(((-FAR, FAR), (-FAR, FAR), (-FAR, FAR - 1))), 6 * FAR - 1)


class MeetCommonInside(unittest.TestCase):
    """[1.2]"""

    def pair(self, one, two, common):
        for first, second in ((one, two), (two, one)):
            self.assertIs(boxes_meet(first, second), common is not None)
            self.assertEqual(box_common(first, second), common)

    def test_touching(self):
        self.pair(((0, 4), (0, 4)), ((4, 9), (1, 2)), ((4, 4), (1, 2)))
        self.pair(((0, 4), (0, 4)), ((4, 9), (4, 9)), ((4, 4), (4, 4)))
        self.pair(((0, 4), (0, 4), (0, 4)), ((4, 9), (-3, 0), (4, 5)), ((4, 4), (0, 0), (4, 4)))

    def test_just_missing(self):
        self.pair(((0, 4), (0, 4)), ((5, 9), (0, 4)), None)
        self.pair(((0, 4), (0, 4)), ((0, 4), (5, 9)), None)
        self.pair(((0, 4), (0, 4)), ((4, 9), (-3, -1)), None)
        self.pair(((0, 4), (0, 4), (0, 4)), ((0, 4), (0, 4), (5, 5)), None)

    def test_alike(self):
        box = ((0, 4), (-2, 3), (7, 7))
        self.pair(box, box, box)
        self.assertIs(box_inside(box, box), True)

    def test_within(self):
        outer, inner = ((0, 9), (0, 9)), ((2, 3), (4, 4))
        self.pair(outer, inner, inner)
        self.assertIs(box_inside(inner, outer), True)
        self.assertIs(box_inside(outer, inner), False)

    def test_points(self):
        self.pair(((1, 1), (2, 2)), ((1, 1), (2, 2)), ((1, 1), (2, 2)))
        self.pair(((1, 1), (2, 2)), ((1, 1), (3, 3)), None)
        self.pair(((1, 1), (2, 2), (3, 3)), ((0, 1), (2, 4), (3, 3)), ((1, 1), (2, 2), (3, 3)))

    def test_crossing_without_a_corner_within(self):
        self.pair(((0, 9), (4, 5)), ((4, 5), (0, 9)), ((4, 5), (4, 5)))

    def test_inside_fails_by_one_end_alone(self):
        outer = ((0, 9), (0, 9), (0, 9))
        for place in range(3):
            for side in ((-1, 9), (0, 10)):
                box = tuple(side if k == place else (0, 9) for k in range(3))
                self.assertIs(box_inside(box, outer), False)
                self.assertIs(box_inside(outer, box), True)

    def test_as_by_going_through_all_points(self):
        for one, two in product(SMALL_BOXES, repeat=2):
            first, second = points_of(one), points_of(two)
            both = first & second
            common = box_common(one, two)
            self.assertIs(boxes_meet(one, two), bool(both))
            self.assertEqual(set() if common is None else points_of(common), both)
            self.assertIs(box_inside(one, two), first <= second)


class GapAndNearPoints(unittest.TestCase):
    """[1.3], [1.4]"""

    def test_gap_of_points_is_their_squared_distance(self):
        self.assertEqual(box_gap(((1, 1), (2, 2)), ((4, 4), (-2, -2))), 25)
        self.assertEqual(box_gap(((1, 1), (2, 2), (3, 3)), ((3, 3), (5, 5), (-3, -3))), 49)

    def test_gap_side_by_side(self):
        box = ((0, 4), (0, 4))
        self.assertEqual(box_gap(box, ((7, 9), (1, 2))), 9)
        self.assertEqual(box_gap(box, ((1, 2), (-7, -2))), 4)
        self.assertEqual(box_gap(box, ((7, 9), (-7, -2))), 13)
        self.assertEqual(box_gap(((0, 4), (0, 4), (0, 4)), ((5, 6), (-2, -1), (6, 6))), 6)

    def test_gap_is_nought_where_two_meet(self):
        for one, two in product(SMALL_BOXES, repeat=2):
            self.assertEqual(box_gap(one, two) == 0, boxes_meet(one, two))

    def test_gap_is_the_least_squared_distance(self):
        for one, two in product(SMALL_BOXES, repeat=2):
            least = min(squared(a, b) for a, b in product(points_of(one), points_of(two)))
            self.assertEqual(box_gap(one, two), least)

    def test_near_points_where_sides_overlap(self):
        self.assertEqual(near_points(((0, 4), (0, 4)), ((2, 9), (-1, 3))), ((2, 0), (2, 0)))
        self.assertEqual(near_points(((2, 9), (-1, 3)), ((0, 4), (0, 4))), ((2, 0), (2, 0)))

    def test_near_points_where_sides_touch(self):
        self.assertEqual(near_points(((0, 4), (0, 4)), ((4, 9), (-3, 0))), ((4, 0), (4, 0)))
        self.assertEqual(near_points(((4, 9), (-3, 0)), ((0, 4), (0, 4))), ((4, 0), (4, 0)))

    def test_near_points_where_sides_lie_apart(self):
        one, two = ((0, 4), (0, 4), (0, 4)), ((6, 9), (-5, -3), (1, 2))
        self.assertEqual(near_points(one, two), ((4, 0, 1), (6, -3, 1)))
        self.assertEqual(near_points(two, one), ((6, -3, 1), (4, 0, 1)))

    def test_near_points_as_by_going_through_all_places(self):
        sides = small_sides(-1, 3)
        for one, two in product(sides, repeat=2):
            first, second = range(one[0], one[1] + 1), range(two[0], two[1] + 1)
            shared = set(first) & set(second)
            pair = min(product(first, second), key=lambda both: abs(both[0] - both[1]))
            if shared:
                pair = (min(shared), min(shared))
            told = near_points((one, (0, 0)), (two, (0, 0)))
            self.assertEqual(told, ((pair[0], 0), (pair[1], 0)))

    def test_near_points_are_of_the_boxes_and_have_the_gap(self):
        row = Row(14)
        for _ in range(1000):
            one, two = row.box(3, 20), row.box(3, 20)
            first, second = near_points(one, two)
            self.assertIs(box_inside(box_of(first, first), one), True)
            self.assertIs(box_inside(box_of(second, second), two), True)
            self.assertEqual(squared(first, second), box_gap(one, two))

    def test_far_places(self):
        one, two = ((-FAR, -FAR + 1), (-FAR, FAR), (FAR, FAR)), ((FAR - 1, FAR), (0, 0), (-FAR, -1))
        self.assertEqual(near_points(one, two), ((-FAR + 1, 0, FAR), (FAR - 1, 0, -1)))
        self.assertEqual(box_gap(one, two), (2 * FAR - 2) ** 2 + (FAR + 1) ** 2)


class TurnedSides(unittest.TestCase):
    """[1.5]: by the words for each side, where a side's low is above its high."""

    def test_meeting_one_turned(self):
        heart = ((5, 3), (0, 0))
        for side, meets in (((2, 6), True), ((3, 5), True), ((4, 4), False), ((3, 4), False), ((4, 5), False)):
            with self.subTest(side):
                self.assertIs(boxes_meet(heart, (side, (0, 0))), meets)
                self.assertIs(boxes_meet((side, (0, 0)), heart), meets)

    def test_meeting_both_turned(self):
        self.assertIs(boxes_meet(((5, 3), (0, 0)), ((5, 3), (0, 0))), False)
        self.assertIs(boxes_meet(((5, 3), (0, 0)), ((9, 8), (0, 0))), False)
        self.assertIs(boxes_meet(((0, 0), (0, 0), (2, 1)), ((0, 0), (0, 0), (2, 1))), False)

    def test_inside_one_turned(self):
        heart = ((5, 3), (0, 0), (1, 2))
        for side in ((4, 4), (3, 3), (5, 5), (2, 6), (5, 9), (0, 3)):
            self.assertIs(box_inside(heart, (side, (0, 0), (1, 2))), True, side)
        for side in ((6, 9), (6, 6), (0, 2), (2, 2)):
            self.assertIs(box_inside(heart, (side, (0, 0), (1, 2))), False, side)

    def test_inside_of_a_turned_one(self):
        self.assertIs(box_inside(((4, 4), (0, 0)), ((5, 3), (0, 0))), False)
        self.assertIs(box_inside(((3, 5), (0, 0)), ((5, 3), (0, 0))), False)

    def test_inside_both_turned(self):
        self.assertIs(box_inside(((5, 1), (0, 0)), ((4, 2), (0, 0))), True)
        self.assertIs(box_inside(((4, 2), (0, 0)), ((5, 1), (0, 0))), False)
        self.assertIs(box_inside(((5, 3), (0, 0)), ((4, 2), (0, 0))), False)
        self.assertIs(box_inside(((5, 3), (0, 0)), ((5, 3), (0, 0))), True)

    def gap(self, one, two, gap):
        self.assertEqual(box_gap((one, (0, 0)), (two, (0, 0))), gap)
        self.assertEqual(box_gap((two, (0, 0)), (one, (0, 0))), gap)

    def test_gap_one_turned(self):
        self.gap((5, 3), (4, 4), 1)
        self.gap((7, 3), (4, 4), 9)
        self.gap((5, 0), (4, 4), 16)
        self.gap((5, 3), (2, 6), 0)
        self.gap((5, 3), (3, 5), 0)

    def test_gap_both_turned(self):
        self.gap((9, 1), (8, 5), 49)
        self.gap((9, 5), (8, 1), 64)
        self.gap((5, 3), (5, 3), 4)

    def test_gap_turned_at_two_sides_of_three(self):
        self.assertEqual(box_gap(((5, 3), (2, 0), (0, 1)), ((4, 4), (0, 0), (4, 4))), 1 + 4 + 9)

    def test_as_by_the_words_for_each_side(self):
        sides = list(product(range(-2, 3), repeat=2))
        for one, two in product(sides, repeat=2):
            first, second = ((0, 0), one), ((0, 0), two)
            self.assertIs(boxes_meet(first, second), not (one[0] > two[1] or two[0] > one[1]))
            self.assertIs(box_inside(first, second), not (one[0] < two[0] or one[1] > two[1]))
            apart = sorted((0, one[0] - two[1], two[0] - one[1]))[-1]
            self.assertEqual(box_gap(first, second), apart ** 2)

    def test_far_places(self):
        top, bottom = ((FAR, FAR), (FAR, FAR), (FAR, FAR)), ((-FAR, -FAR), (-FAR, -FAR), (-FAR, -FAR))
        whole, turned = ((-FAR, FAR),) * 3, ((FAR, -FAR),) * 3
        self.assertEqual(box_gap(top, bottom), 3 * 16 * 10**60)
        self.assertEqual(box_gap(turned, turned), 3 * 16 * 10**60)
        self.assertEqual(box_gap(turned, top), 3 * 16 * 10**60)
        self.assertEqual(box_gap(turned, whole), 0)
        self.assertIs(boxes_meet(turned, whole), True)
        self.assertIs(boxes_meet(turned, ((-FAR, FAR - 1),) * 3), False)
        self.assertIs(boxes_meet(turned, ((-FAR + 1, FAR),) * 3), False)
        self.assertIs(box_inside(turned, ((FAR, -FAR),) * 3), True)
        self.assertIs(box_inside(turned, ((FAR, -FAR - 1),) * 3), False)
        self.assertIs(box_inside(whole, ((-FAR, FAR), (-FAR, FAR), (-FAR, FAR - 1))), False)
        self.assertIs(box_inside(top, whole), True)


class WhatIsTold(unittest.TestCase):
    """[0.3]: numbers, True, False, None, and tuples all the way down."""

    def test_kinds(self):
        row = Row(3)
        for count in range(200):
            sides = 2 + count % 2
            one, two = row.box(sides, 6), row.box(sides, 6)
            for ask in (box_cover, box_common, boxes_meet, box_inside, box_gap, near_points):
                self.assertTrue(told_plainly(ask(one, two)), ask)
            self.assertTrue(told_plainly(box_of(row.point(sides, 6), row.point(sides, 6))))
            self.assertIs(type(box_rim(one)), int)
            self.assertIs(type(box_gap(one, two)), int)


if __name__ == "__main__":
    unittest.main()
