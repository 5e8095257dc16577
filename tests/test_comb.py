"""[3.4]: combing."""

import unittest
from itertools import product

from driftwood.comb import combed
from driftwood.weave import unwoven, woven
from tests.helper import Row, small_sides


def combed_one_by_one(row, box, bits):
    return tuple(
        handle for number, handle in row
        if all(low <= part <= high for part, (low, high) in zip(unwoven(number, len(box), bits), box)))


class Combed(unittest.TestCase):
    def test_a_row_without_a_pair(self):
        self.assertEqual(combed((), ((0, 3), (0, 3)), 2), ())
        self.assertEqual(combed((), ((0, 0), (0, 0), (0, 0)), 0), ())

    def test_in_the_order_of_the_row(self):
        row = ((0, 9), (3, 8), (5, 7), (6, 1), (9, 5), (12, 0), (15, 2))
        self.assertEqual(combed(row, ((1, 2), (1, 2)), 2), (8, 1, 5, 0))

    def test_several_pairs_with_one_number(self):
        row = ((2, 4), (3, 0), (3, 5), (3, 10**18), (4, 5), (12, 1), (12, 5))
        self.assertEqual(combed(row, ((1, 1), (1, 1)), 2), (0, 5, 10**18))
        self.assertEqual(combed(row, ((1, 2), (1, 2)), 2), (0, 5, 10**18, 1, 5))

    def test_the_box_of_all_points(self):
        row = tuple((number, 50 - number // 2) for number in range(64))
        self.assertEqual(combed(row, ((0, 7), (0, 7)), 3), tuple(handle for number, handle in row))
        self.assertEqual(combed(row, ((0, 3),) * 3, 2), tuple(handle for number, handle in row))

    def test_a_box_that_no_pair_lies_in(self):
        row = ((0, 1), (1, 1), (2, 1), (13, 1), (15, 1))
        self.assertEqual(combed(row, ((1, 2), (1, 2)), 2), ())
        self.assertEqual(combed(row[:3], ((2, 3), (2, 3)), 2), ())
        self.assertEqual(combed(row[3:], ((0, 1), (0, 1)), 2), ())

    def test_no_bits(self):
        for sides in (2, 3):
            self.assertEqual(combed(((0, 3), (0, 8)), ((0, 0),) * sides, 0), (3, 8))

    def test_one_bit(self):
        row = tuple((number, number + 10) for number in range(8))
        self.assertEqual(combed(row, ((1, 1), (0, 1), (0, 0)), 1), (14, 16))

    def test_small_boxes_one_by_one(self):
        mixed = Row(37)
        for box in product(small_sides(0, 3), repeat=2):
            row = tuple(sorted({(mixed.number(0, 15), mixed.number(0, 3)) for _ in range(20)}))
            self.assertEqual(combed(row, box, 2), combed_one_by_one(row, box, 2))
        for box in product(small_sides(0, 1), repeat=3):
            row = tuple((number, 0) for number in range(8) if mixed.number(0, 2))
            self.assertEqual(combed(row, box, 1), combed_one_by_one(row, box, 1))

    def test_long_rows(self):
        mixed = Row(38)
        for sides, bits, width in product((2, 3), (8, 102, 110), (0, 2, 6)):
            points = [tuple(mixed.wide(bits) for _ in range(sides)) for _ in range(1000)]
            row = tuple(sorted((woven(point, bits), handle) for handle, point in enumerate(points)))
            middle = points[mixed.number(0, 999)]
            box = tuple((max(part - 2**(bits - width) // 2, 0), min(part + 2**(bits - width) // 2, 2**bits - 1))
                        for part in middle)
            told = combed(row, box, bits)
            self.assertEqual(told, combed_one_by_one(row, box, bits))
            self.assertIn(points.index(middle), told)

    def test_far_numbers(self):
        ones = 2**110 - 1
        row = ((0, 1), (8**110 - 2, 3), (8**110 - 1, 2))
        self.assertEqual(combed(row, ((ones, ones),) * 3, 110), (2,))
        self.assertEqual(combed(row, ((ones, ones), (ones, ones), (0, ones)), 110), (3, 2))

    def test_kinds(self):
        told = combed(((0, 1), (3, 2)), ((0, 1), (0, 1)), 1)
        self.assertIs(type(told), tuple)
        self.assertEqual([type(handle) for handle in told], [int, int])


if __name__ == "__main__":
    unittest.main()
