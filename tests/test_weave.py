"""[3.1] to [3.3]: weaving."""

import unittest
from bisect import bisect_left
from itertools import product

from driftwood.weave import earlier, next_in, unwoven, woven
from tests.helper import Row, points_of, small_sides

COUNTS = (0, 1, 2, 3, 7, 8, 31, 32, 33, 63, 64, 65, 101, 102, 109, 110)


def woven_by_the_words(point, bits):
    """Each bit put to its place by the formula of [3.1]."""
    sides = len(point)
    number = 0
    for side, part in enumerate(point):
        for k in range(bits):
            if part & 2**k:
                number += 2 ** (k * sides + sides - 1 - side)
    return number


def next_by_prefixes(number, box, bits):
    """The next one in a box too wide to go through: by the longest run of bits that it can share with the number."""
    sides = len(box)
    point = unwoven(number, sides, bits)
    if all(low <= part <= high for part, (low, high) in zip(point, box)):
        return number
    for place in range(sides * bits):
        if not number >> place & 1:
            least = (number >> place | 1) << place
            lows, highs = unwoven(least, sides, bits), unwoven(least + 2**place - 1, sides, bits)
            if all(low <= b and a <= high for a, b, (low, high) in zip(lows, highs, box)):
                return woven_by_the_words(tuple(max(a, low) for a, (low, high) in zip(lows, box)), bits)
    return None


class Woven(unittest.TestCase):
    """[3.1]"""

    def both(self, point, bits, number):
        self.assertEqual(woven(point, bits), number)
        self.assertEqual(unwoven(number, len(point), bits), point)

    def test_two_sides(self):
        self.both((0b101, 0b011), 3, 0b100111)
        self.both((1, 0), 1, 2)
        self.both((0, 1), 1, 1)

    def test_three_sides(self):
        self.both((0b10, 0b01, 0b11), 2, 0b101011)
        self.both((1, 0, 0), 1, 4)
        self.both((0, 1, 0), 1, 2)
        self.both((0, 0, 1), 1, 1)

    def test_more_bits_than_needed(self):
        self.both((1, 0), 110, 2)
        self.both((0, 2, 1), 50, 0b010001)

    def test_no_bits(self):
        self.both((0, 0), 0, 0)
        self.both((0, 0, 0), 0, 0)

    def test_noughts_and_ones(self):
        for sides, bits in product((2, 3), COUNTS):
            self.both((0,) * sides, bits, 0)
            self.both((2**bits - 1,) * sides, bits, 2 ** (sides * bits) - 1)

    def test_one_side_of_ones(self):
        self.both((2**110 - 1, 0), 110, 2 * (4**110 - 1) // 3)
        self.both((0, 2**110 - 1), 110, (4**110 - 1) // 3)
        self.both((0, 0, 2**110 - 1), 110, (8**110 - 1) // 7)
        self.both((2**110 - 1, 0, 0), 110, 4 * (8**110 - 1) // 7)

    def test_each_bit_by_itself(self):
        for sides, bits in product((2, 3), (1, 2, 5, 110)):
            for side, k in product(range(sides), range(bits)):
                point = tuple(2**k if j == side else 0 for j in range(sides))
                self.both(point, bits, 2 ** (k * sides + sides - 1 - side))

    def test_mixed(self):
        row = Row(31)
        for bits in COUNTS:
            for count in range(12):
                point = tuple(row.wide(bits) for _ in range(2 + count % 2))
                self.both(point, bits, woven_by_the_words(point, bits))

    def test_small_points_have_all_numbers_once(self):
        for sides, bits in ((2, 1), (2, 3), (3, 1), (3, 2)):
            numbers = [woven(point, bits) for point in product(range(2**bits), repeat=sides)]
            self.assertEqual(sorted(numbers), list(range(2 ** (sides * bits))))

    def test_kinds(self):
        self.assertIs(type(woven((1, 2), 2)), int)
        self.assertIs(type(unwoven(3, 3, 1)), tuple)
        self.assertEqual([type(part) for part in unwoven(3, 3, 1)], [int] * 3)


class Earlier(unittest.TestCase):
    """[3.2]"""

    def order(self, one, two):
        self.assertIs(earlier(one, two), True)
        self.assertIs(earlier(two, one), False)

    def test_a_point_and_itself(self):
        for point in ((0, 0), (5, 3), (0, 0, 0), (2**110 - 1,) * 3):
            self.assertIs(earlier(point, point), False)

    def test_one_bit_of_one_side(self):
        for sides, k in product((2, 3), (0, 1, 50, 109)):
            for side in range(sides):
                one = (2**110 - 1 - 2**k,) * sides
                two = tuple(part + 2**k if j == side else part for j, part in enumerate(one))
                self.order(one, two)

    def test_the_bit_of_greatest_worth_settles(self):
        self.order((3, 3), (4, 0))
        self.order((3, 3), (0, 4))
        self.order((7, 7, 7), (0, 0, 8))
        self.order((2**109 - 1, 2**109 - 1), (0, 2**109))

    def test_of_bits_of_like_worth_the_first_side_settles(self):
        self.order((0, 4), (4, 0))
        self.order((3, 7), (4, 0))
        self.order((0, 0, 8), (0, 8, 0))
        self.order((0, 8, 0), (8, 0, 0))
        self.order((0, 2**110 - 1, 2**110 - 1), (2**109, 0, 0))

    def test_a_side_of_many_bits_beside_one_of_few(self):
        self.order((1, 0), (0, 2**110 - 1))
        self.order((0, 2**110 - 1), (2**109, 0))

    def test_as_by_woven_numbers(self):
        row = Row(32)
        for count in range(600):
            sides, bits = 2 + count % 2, (3, 40, 110)[count % 3]
            one = tuple(row.wide(bits) for _ in range(sides))
            two = tuple(row.wide(bits) if row.number(0, 2) else part for part in one)
            self.assertIs(earlier(one, two), woven_by_the_words(one, 110) < woven_by_the_words(two, 110))

    def test_all_small_points(self):
        for one, two in product(product(range(4), repeat=2), repeat=2):
            self.assertIs(earlier(one, two), woven_by_the_words(one, 2) < woven_by_the_words(two, 2))


class NextIn(unittest.TestCase):
    """[3.3]"""

    def through(self, sides, bits):
        for box in product(small_sides(0, 2**bits - 1), repeat=sides):
            numbers = sorted(woven_by_the_words(point, bits) for point in points_of(box))
            for number in range(2 ** (sides * bits) + 1):
                place = bisect_left(numbers, number)
                due = numbers[place] if place < len(numbers) else None
                self.assertEqual(next_in(number, box, bits), due, (number, box, bits))

    def test_two_sides_one_by_one(self):
        self.through(2, 1)
        self.through(2, 2)

    def test_three_bits_one_by_one(self):
        self.through(2, 3)

    def test_three_sides_one_by_one(self):
        self.through(3, 1)
        self.through(3, 2)

    def test_before_within_between_behind(self):
        box = ((1, 2), (1, 2))
        self.assertEqual([woven((x, y), 2) for x, y in product((1, 2), repeat=2)], [3, 6, 9, 12])
        told = [next_in(number, box, 2) for number in range(17)]
        self.assertEqual(told, [3] * 4 + [6] * 3 + [9] * 3 + [12] * 3 + [None] * 4)

    def test_no_bits(self):
        for sides in (2, 3):
            self.assertEqual(next_in(0, ((0, 0),) * sides, 0), 0)
            self.assertIsNone(next_in(1, ((0, 0),) * sides, 0))

    def test_the_number_behind_all(self):
        for sides, bits in product((2, 3), COUNTS):
            whole = ((0, 2**bits - 1),) * sides
            end = 2 ** (sides * bits)
            self.assertIsNone(next_in(end, whole, bits))
            self.assertEqual(next_in(end - 1, whole, bits), end - 1)
            self.assertEqual(next_in(0, whole, bits), 0)

    def test_the_box_of_all_points_has_each_number(self):
        row = Row(33)
        for sides, bits in product((2, 3), COUNTS):
            number = row.wide(sides * bits)
            self.assertEqual(next_in(number, ((0, 2**bits - 1),) * sides, bits), number)

    def test_one_point(self):
        row = Row(34)
        for sides, bits in product((2, 3), COUNTS[1:]):
            point = tuple(row.wide(bits) for _ in range(sides))
            box = tuple((part, part) for part in point)
            number = woven_by_the_words(point, bits)
            for start in (0, number // 2, max(number - 1, 0), number):
                self.assertEqual(next_in(start, box, bits), number)
            self.assertIsNone(next_in(number + 1, box, bits))

    def test_few_points_at_far_places_one_by_one(self):
        row = Row(35)
        for count in range(60):
            sides, bits = 2 + count % 2, row.number(10, 110)
            lows = [row.wide(bits - 2) for _ in range(sides)]
            box = tuple((low, low + row.number(0, 3)) for low in lows)
            numbers = sorted(woven_by_the_words(point, bits) for point in points_of(box))
            starts = numbers + [number + 1 for number in numbers] + [number - 1 for number in numbers if number]
            starts += [(a + b) // 2 for a, b in zip(numbers, numbers[1:])] + [0, 2 ** (sides * bits)]
            for start in starts:
                place = bisect_left(numbers, start)
                due = numbers[place] if place < len(numbers) else None
                self.assertEqual(next_in(start, box, bits), due)

    def test_boxes_of_any_width(self):
        row = Row(36)
        kinds = {"same": 0, "greater": 0, "none": 0}
        for count in range(200):
            sides, bits = 2 + count % 2, row.number(1, 110)
            ends = [(row.wide(row.number(0, bits)), row.wide(bits)) for _ in range(sides)]
            box = tuple((min(pair), max(pair)) for pair in ends)
            corner = woven_by_the_words(tuple(high for low, high in box), bits)
            starts = [row.wide(sides * bits), max(corner - row.wide(bits), 0), corner]
            starts.append(min(corner + 1 + row.wide(bits), 2 ** (sides * bits) - 1))
            for start in starts:
                due = next_by_prefixes(start, box, bits)
                self.assertEqual(next_in(start, box, bits), due)
                kinds["none" if due is None else "same" if due == start else "greater"] += 1
        self.assertGreater(min(kinds.values()), 50)

    def test_kinds(self):
        self.assertIs(type(next_in(0, ((1, 2), (1, 2)), 2)), int)


if __name__ == "__main__":
    unittest.main()
