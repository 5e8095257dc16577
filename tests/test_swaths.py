"""[2.1] to [2.3]: frames and swaths."""

import unittest
from itertools import product

from driftwood.boxes import box_inside
from driftwood.swaths import drifting, frame_at, frame_held, frames_joined, frames_narrowed, still_swath
from tests.helper import Row, told_plainly

PLACE = 10**30
SPEED = 10**15
LAST = 10**15
FRAME = ((0, 5, -1, 2), (3, 3, 0, 0))


class Making(unittest.TestCase):
    """[2.1]"""

    def test_a_box_that_stays(self):
        self.assertEqual(still_swath(((1, 4), (-2, 2))), ((1, 4, 0, 0), (-2, 2, 0, 0)))
        self.assertEqual(
            still_swath(((1, 1), (-2, 2), (0, 9))), ((1, 1, 0, 0), (-2, 2, 0, 0), (0, 9, 0, 0)))

    def test_a_box_that_drifts(self):
        self.assertEqual(drifting(((1, 4), (-2, 2)), (3, -7)), ((1, 4, 3, 3), (-2, 2, -7, -7)))
        self.assertEqual(
            drifting(((1, 4), (-2, 2), (0, 0)), (0, SPEED, -SPEED)),
            ((1, 4, 0, 0), (-2, 2, SPEED, SPEED), (0, 0, -SPEED, -SPEED)))

    def test_speeds_nought_are_staying(self):
        box = ((1, 4), (-2, 2), (5, 5))
        self.assertEqual(drifting(box, (0, 0, 0)), still_swath(box))


class AtABeat(unittest.TestCase):
    """[2.1], [0.4]"""

    def test_at_beat_nought(self):
        self.assertEqual(frame_at(FRAME, 0), ((0, 5), (3, 3)))

    def test_between(self):
        self.assertEqual(frame_at(FRAME, 4), ((-4, 13), (3, 3)))
        self.assertEqual(frame_at(((0, 5, 2, 3), (1, 1, -1, -1), (0, 0, 0, 1)), 7), ((14, 26), (-6, -6), (0, 7)))

    def test_at_the_last_beat(self):
        swath = ((-PLACE, PLACE, -SPEED, SPEED), (0, 1, SPEED, SPEED))
        self.assertEqual(frame_at(swath, LAST), ((-2 * PLACE, 2 * PLACE), (PLACE, PLACE + 1)))
        self.assertEqual(
            frame_at(swath, LAST - 1),
            ((-2 * PLACE + SPEED, 2 * PLACE - SPEED), (PLACE - SPEED, PLACE - SPEED + 1)))

    def test_a_box_that_stays_is_there_at_each_beat(self):
        box = ((1, 4), (-2, 2))
        for beat in (0, 1, 12345, LAST):
            self.assertEqual(frame_at(still_swath(box), beat), box)

    def test_a_box_that_drifts_keeps_its_shape(self):
        swath = drifting(((1, 4), (-2, 2)), (3, -7))
        self.assertEqual(frame_at(swath, 10), ((31, 34), (-72, -68)))
        self.assertEqual(frame_at(swath, LAST), ((1 + 3 * LAST, 4 + 3 * LAST), (-2 - 7 * LAST, 2 - 7 * LAST)))

    def test_turned_ends_stay_turned(self):
        frame = ((5, 0, 2, -1), (4, 1, 0, 1))
        self.assertEqual(frame_at(frame, 0), ((5, 0), (4, 1)))
        self.assertEqual(frame_at(frame, 3), ((11, -3), (4, 4)))
        self.assertEqual(frame_at(frame, 10), ((25, -10), (4, 11)))


class JoinedAndNarrowed(unittest.TestCase):
    """[2.2]"""

    def test_joined(self):
        one, two = ((0, 5, -1, 2), (3, 3, 0, 0)), ((-2, 4, 0, 3), (1, 9, -4, -1))
        told = ((-2, 5, -1, 3), (1, 9, -4, 0))
        self.assertEqual(frames_joined(one, two), told)
        self.assertEqual(frames_joined(two, one), told)

    def test_narrowed(self):
        one, two = ((0, 5, -1, 2), (3, 3, 0, 0)), ((-2, 4, 0, 3), (1, 9, -4, -1))
        told = ((0, 4, 0, 2), (3, 3, 0, -1))
        self.assertEqual(frames_narrowed(one, two), told)
        self.assertEqual(frames_narrowed(two, one), told)

    def test_of_turned_frames(self):
        one, two = ((5, 0, 2, -1), (4, 1, 0, 1), (0, 0, 0, 0)), ((7, 2, -3, -2), (3, 3, 5, 4), (2, -2, 1, -1))
        joined = ((5, 2, -3, -1), (3, 3, 0, 4), (0, 0, 0, 0))
        narrowed = ((7, 0, 2, -2), (4, 1, 5, 1), (2, -2, 1, -1))
        for first, second in ((one, two), (two, one)):
            self.assertEqual(frames_joined(first, second), joined)
            self.assertEqual(frames_narrowed(first, second), narrowed)

    def test_with_itself(self):
        for frame in (FRAME, ((5, 0, 2, -1), (4, 1, 0, 1), (7, 7, 1, 1))):
            self.assertEqual(frames_joined(frame, frame), frame)
            self.assertEqual(frames_narrowed(frame, frame), frame)

    def test_each_number_by_itself(self):
        row = Row(22)
        for count in range(500):
            sides = 2 + count % 2
            one, two = row.frame(sides, 5, 5), row.frame(sides, 5, 5)
            joined, narrowed = frames_joined(one, two), frames_narrowed(one, two)
            for a, b, wide, slim in zip(one, two, joined, narrowed):
                pairs = [sorted(pair) for pair in zip(a, b)]
                self.assertEqual(wide, tuple(pairs[k][k % 2] for k in range(4)))
                self.assertEqual(slim, tuple(pairs[k][1 - k % 2] for k in range(4)))

    def test_far_numbers(self):
        one, two = ((-PLACE, PLACE - 1, -SPEED, 0), (0, 0, 0, 0)), ((1 - PLACE, PLACE, 1 - SPEED, SPEED), (0, 0, 0, 0))
        self.assertEqual(frames_joined(one, two)[0], (-PLACE, PLACE, -SPEED, SPEED))
        self.assertEqual(frames_narrowed(one, two)[0], (1 - PLACE, PLACE - 1, 1 - SPEED, 0))

    def test_either_swath_lies_inside_what_they_are_joined_to(self):
        row = Row(23)
        for count in range(300):
            sides = 2 + count % 2
            one, two = row.swath(sides, 9, 3), row.swath(sides, 9, 3)
            joined = frames_joined(one, two)
            for beat in (0, 1, 2, 7, LAST):
                self.assertIs(box_inside(frame_at(one, beat), frame_at(joined, beat)), True)
                self.assertIs(box_inside(frame_at(two, beat), frame_at(joined, beat)), True)


class Held(unittest.TestCase):
    """[2.3]"""

    def test_by_itself(self):
        self.assertIs(frame_held(FRAME, FRAME), True)

    def test_within(self):
        self.assertIs(frame_held(FRAME, ((-1, 6, -2, 3), (2, 4, -1, 1))), True)
        self.assertIs(frame_held(((-1, 6, -2, 3), (2, 4, -1, 1)), FRAME), False)

    def test_each_number_counts_at_each_side(self):
        outer = ((0, 9, -5, 5), (0, 9, -5, 5), (0, 9, -5, 5))
        for place in range(3):
            for side in ((-1, 9, -5, 5), (0, 10, -5, 5), (0, 9, -6, 5), (0, 9, -5, 6)):
                frame = tuple(side if k == place else outer[k] for k in range(3))
                with self.subTest(side, place=place):
                    self.assertIs(frame_held(frame, outer), False)
                    self.assertIs(frame_held(outer, frame), True)

    def test_of_turned_frames(self):
        self.assertIs(frame_held(((5, 0, 2, -1), (0, 0, 0, 0)), ((4, 1, 1, 0), (0, 0, 0, 0))), True)
        self.assertIs(frame_held(((4, 1, 1, 0), (0, 0, 0, 0)), ((5, 0, 2, -1), (0, 0, 0, 0))), False)
        self.assertIs(frame_held(((5, 3, 2, 1), (0, 0, 0, 0)), ((4, 4, 2, 1), (0, 0, 0, 0))), True)
        self.assertIs(frame_held(((4, 4, 0, 0), (0, 0, 0, 0)), ((5, 3, 0, 0), (0, 0, 0, 0))), False)

    def test_as_by_its_four_words(self):
        sides = list(product((0, 1), repeat=4))
        for one, two in product(sides, repeat=2):
            held = not (one[0] < two[0] or one[1] > two[1] or one[2] < two[2] or one[3] > two[3])
            self.assertIs(frame_held((one, FRAME[1]), (two, FRAME[1])), held)
            self.assertIs(frame_held((FRAME[0], one), (FRAME[0], two)), held)

    def test_a_held_swath_lies_inside_at_every_beat(self):
        row = Row(24)
        many = 0
        for _ in range(2000):
            one, two = row.swath(2, 3, 2), row.swath(2, 6, 4)
            if frame_held(one, two):
                many += 1
                for beat in (0, 1, 2, 9, LAST):
                    self.assertIs(box_inside(frame_at(one, beat), frame_at(two, beat)), True)
        self.assertGreater(many, 20)

    def test_held_by_what_it_is_joined_to_and_holds_what_it_is_narrowed_to(self):
        row = Row(25)
        for _ in range(300):
            one, two = row.frame(3, 5, 5), row.frame(3, 5, 5)
            self.assertIs(frame_held(one, frames_joined(one, two)), True)
            self.assertIs(frame_held(two, frames_joined(one, two)), True)
            self.assertIs(frame_held(frames_narrowed(one, two), one), True)
            self.assertIs(frame_held(frames_narrowed(one, two), two), True)


class WhatIsTold(unittest.TestCase):
    """[0.3]: tuples all the way down."""

    def test_kinds(self):
        row = Row(26)
        for count in range(50):
            sides = 2 + count % 2
            one, two, box = row.frame(sides, 5, 5), row.frame(sides, 5, 5), row.box(sides, 5)
            told = (still_swath(box), drifting(box, row.point(sides, 5)), frame_at(one, 3),
                    frames_joined(one, two), frames_narrowed(one, two), frame_held(one, two))
            self.assertTrue(told_plainly(told))


if __name__ == "__main__":
    unittest.main()
