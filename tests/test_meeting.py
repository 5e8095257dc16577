"""[2.4], [2.5], [0.6]: beats at which a need is met, and beats at which two frames meet."""

import unittest
from itertools import product

from driftwood.boxes import boxes_meet
from driftwood.meeting import beats_of, meeting
from driftwood.swaths import drifting, frame_at, still_swath
from tests.helper import Row, told_plainly

PLACE = 10**30
SPEED = 10**15
LAST = 10**15


def without_a_hole(beats):
    """The pair for a row of beats found one by one, which must follow one another."""
    if not beats:
        return None
    assert beats == list(range(beats[0], beats[-1] + 1)), beats
    return (beats[0], beats[-1])


def sides_meet_at(one, two, beat):
    """By the words of [1.2] for one side, written out anew."""
    one_above = one[0] + one[2] * beat > two[1] + two[3] * beat
    two_above = two[0] + two[2] * beat > one[1] + one[3] * beat
    return not one_above and not two_above


def meeting_one_by_one(one, two, first, last):
    beats = [beat for beat in range(first, last + 1)
             if all(sides_meet_at(a, b, beat) for a, b in zip(one, two))]
    return without_a_hole(beats)


class BeatsOf(unittest.TestCase):
    """[2.4]"""

    def test_rise_above_nought(self):
        self.assertEqual(beats_of(10, 3, 0, 9), (4, 9))
        self.assertEqual(beats_of(10, 3, 6, 9), (6, 9))
        self.assertEqual(beats_of(10, 3, 0, 4), (4, 4))
        self.assertIsNone(beats_of(10, 3, 0, 3))

    def test_rise_below_nought(self):
        self.assertEqual(beats_of(-10, -3, 0, 9), (0, 3))
        self.assertEqual(beats_of(-10, -3, 0, 2), (0, 2))
        self.assertEqual(beats_of(-10, -3, 3, 9), (3, 3))
        self.assertIsNone(beats_of(-10, -3, 4, 9))
        self.assertIsNone(beats_of(1, -3, 0, 9))

    def test_rise_nought(self):
        self.assertEqual(beats_of(0, 0, 2, 9), (2, 9))
        self.assertEqual(beats_of(-1, 0, 2, 9), (2, 9))
        self.assertIsNone(beats_of(1, 0, 2, 9))

    def test_need_met_just_at_a_beat_one_more_and_one_less(self):
        self.assertEqual(beats_of(15, 5, 0, 9), (3, 9))
        self.assertEqual(beats_of(16, 5, 0, 9), (4, 9))
        self.assertEqual(beats_of(14, 5, 0, 9), (3, 9))
        self.assertEqual(beats_of(-15, -5, 0, 9), (0, 3))
        self.assertEqual(beats_of(-14, -5, 0, 9), (0, 2))
        self.assertEqual(beats_of(-16, -5, 0, 9), (0, 3))

    def test_need_nought_or_below(self):
        self.assertEqual(beats_of(0, 5, 0, 9), (0, 9))
        self.assertEqual(beats_of(0, -5, 0, 9), (0, 0))
        self.assertIsNone(beats_of(0, -5, 1, 9))
        self.assertEqual(beats_of(-7, 5, 0, 9), (0, 9))
        self.assertEqual(beats_of(-7, 5, 3, 3), (3, 3))

    def test_first_greater_than_last(self):
        for need, rise in product((-5, 0, 5), (-5, 0, 5)):
            self.assertIsNone(beats_of(need, rise, 4, 3))
        self.assertIsNone(beats_of(-10**61, 0, LAST, 0))

    def test_numbers_of_62_figures(self):
        big = 10**62 - 1
        self.assertEqual(beats_of(big, big, 0, LAST), (1, LAST))
        self.assertEqual(beats_of(-big, -big, 0, LAST), (0, 1))
        self.assertEqual(beats_of(-big, big, 0, LAST), (0, LAST))
        self.assertIsNone(beats_of(big, -big, 0, LAST))
        self.assertIsNone(beats_of(big, 0, 0, LAST))
        self.assertEqual(beats_of(-big, 0, 0, LAST), (0, LAST))
        self.assertIsNone(beats_of(big, 1, 0, LAST))
        self.assertEqual(beats_of(-big, -1, 0, LAST), (0, LAST))

    def test_exact_to_the_last_figure(self):
        rise = 10**47 + 3
        met = 7 * 10**14 + 1
        self.assertEqual(len(str(rise * met)), 62)
        self.assertEqual(beats_of(rise * met, rise, 0, LAST), (met, LAST))
        self.assertEqual(beats_of(rise * met + 1, rise, 0, LAST), (met + 1, LAST))
        self.assertEqual(beats_of(rise * met - 1, rise, 0, LAST), (met, LAST))
        self.assertEqual(beats_of(-rise * met, -rise, 0, LAST), (0, met))
        self.assertEqual(beats_of(-rise * met + 1, -rise, 0, LAST), (0, met - 1))
        self.assertEqual(beats_of(-rise * met - 1, -rise, 0, LAST), (0, met))

    def test_as_by_going_through_the_beats(self):
        for need, rise, first, last in product(range(-9, 10), range(-4, 5), range(7), range(7)):
            beats = [beat for beat in range(first, last + 1) if need <= rise * beat]
            self.assertEqual(beats_of(need, rise, first, last), without_a_hole(beats))


class Meeting(unittest.TestCase):
    """[2.5]"""

    def both_ways(self, one, two, first, last, told):
        self.assertEqual(meeting(one, two, first, last), told)
        self.assertEqual(meeting(two, one, first, last), told)

    def test_at_all_beats(self):
        one, two = still_swath(((0, 4), (0, 4))), still_swath(((4, 9), (-1, 0)))
        self.both_ways(one, two, 0, LAST, (0, LAST))
        self.both_ways(one, two, 5, 5, (5, 5))

    def test_at_some_beats(self):
        one, two = still_swath(((0, 4), (0, 4))), drifting(((-10, -9), (2, 3)), (3, 0))
        self.both_ways(one, two, 0, 100, (3, 4))
        self.both_ways(one, two, 4, 100, (4, 4))
        self.both_ways(one, two, 0, 3, (3, 3))
        self.both_ways(one, two, 5, 100, None)

    def test_three_sides_each_narrows_the_beats(self):
        one = still_swath(((0, 9), (0, 9), (0, 9)))
        two = drifting(((-5, -5), (15, 15), (-2, -2)), (1, -1, 1))
        self.both_ways(one, two, 0, 100, (6, 11))
        three = drifting(((-5, -5), (15, 15), (-9, -9)), (1, -1, 1))
        self.both_ways(one, three, 0, 100, (9, 14))

    def test_at_one_beat(self):
        one, two = drifting(((0, 0), (0, 0)), (2, 0)), drifting(((12, 12), (9, 9)), (0, -3))
        self.both_ways(one, drifting(((12, 12), (0, 0)), (0, 0)), 0, 50, (6, 6))
        self.both_ways(one, two, 0, 50, None)
        self.both_ways(one, drifting(((12, 12), (18, 18)), (0, -3)), 0, 50, (6, 6))

    def test_at_no_beat(self):
        one, two = drifting(((0, 4), (0, 4)), (1, 1)), drifting(((5, 9), (0, 4)), (1, 1))
        self.both_ways(one, two, 0, LAST, None)
        self.both_ways(one, drifting(((5, 9), (0, 4)), (2, 1)), 0, LAST, None)

    def test_sides_that_meet_at_unlike_beats_alone(self):
        one = still_swath(((0, 0), (0, 0)))
        self.both_ways(one, drifting(((-3, -3), (-5, -5)), (1, 1)), 0, 50, None)

    def test_passing_through_one_another_between_two_beats(self):
        one, two = drifting(((0, 0), (0, 0)), (1, 0)), drifting(((5, 5), (0, 0)), (-1, 0))
        self.both_ways(one, two, 0, 50, None)
        self.both_ways(one, drifting(((6, 6), (0, 0)), (-1, 0)), 0, 50, (3, 3))
        wide = drifting(((10, 17), (0, 0), (0, 0)), (-100, 0, 0))
        self.both_ways(still_swath(((0, 9), (0, 9), (0, 9))), wide, 0, 50, None)

    def test_turned_ends(self):
        heart = ((5, 3, 0, 0), (0, 0, 0, 0))
        self.both_ways(heart, still_swath(((4, 4), (0, 0))), 0, 50, None)
        self.both_ways(heart, still_swath(((3, 5), (0, 0))), 0, 50, (0, 50))
        self.both_ways(heart, heart, 0, 50, None)
        self.both_ways(heart, ((9, 0, -1, 1), (0, 0, 0, 0)), 0, 50, (6, 50))

    def test_turned_speeds(self):
        heart = ((-9, 9, 1, -1), (0, 0, 0, 0), (0, 0, 0, 0))
        point = still_swath(((0, 0), (0, 0), (0, 0)))
        self.both_ways(heart, point, 0, 50, (0, 9))
        self.both_ways(heart, point, 10, 50, None)
        self.both_ways(heart, heart, 0, 50, (0, 9))
        self.both_ways(((-9, 9, 4, -4), (0, 0, 0, 0), (0, 0, 0, 0)), point, 0, 50, (0, 2))

    def test_first_greater_than_last(self):
        box = still_swath(((0, 4), (0, 4)))
        self.both_ways(box, box, 4, 3, None)
        self.both_ways(box, drifting(((0, 4), (0, 4)), (1, -1)), LAST, 0, None)

    def test_far_places_and_speeds(self):
        one = drifting(((-PLACE, -PLACE), (0, 0)), (SPEED, 0))
        two = drifting(((PLACE, PLACE), (0, 0)), (-SPEED, 0))
        self.both_ways(one, two, 0, LAST, (LAST, LAST))
        self.both_ways(one, two, 0, LAST - 1, None)
        near = drifting(((PLACE - 1, PLACE - 1), (0, 0)), (-SPEED, 0))
        self.both_ways(one, near, 0, LAST, None)
        wide = drifting(((PLACE - 2 * SPEED, PLACE), (0, 0)), (-SPEED, 0))
        self.both_ways(one, wide, 0, LAST, (LAST - 1, LAST))
        slim = drifting(((PLACE - 2 * SPEED + 1, PLACE), (0, 0)), (-SPEED, 0))
        self.both_ways(one, slim, 0, LAST, (LAST, LAST))

    def test_parting_at_far_places(self):
        one = ((-PLACE, PLACE, SPEED, SPEED), (-PLACE, PLACE, -SPEED, SPEED), (0, 0, 0, 0))
        two = ((-PLACE, PLACE, -SPEED, -SPEED), (-PLACE, -PLACE, -SPEED, -SPEED), (0, 0, 0, 0))
        self.both_ways(one, two, 0, LAST, (0, LAST))
        short = ((-PLACE, PLACE - 1, -SPEED, -SPEED), (-PLACE, -PLACE, -SPEED, -SPEED), (0, 0, 0, 0))
        self.both_ways(one, short, 0, LAST, (0, LAST - 1))

    def test_as_by_going_through_the_beats(self):
        row = Row(25)
        some = none = 0
        for count in range(6000):
            sides = 2 + count % 2
            one, two = row.frame(sides, 12, 3), row.frame(sides, 12, 3)
            if count % 3 == 0:
                one, two = row.swath(sides, 12, 3), row.swath(sides, 12, 3)
            first = row.number(0, 3)
            last = row.number(0, 14)
            told = meeting_one_by_one(one, two, first, last)
            self.both_ways(one, two, first, last, told)
            some += told is not None
            none += told is None
        self.assertGreater(some, 300)
        self.assertGreater(none, 300)

    def test_the_beats_told_are_those_at_which_the_boxes_meet(self):
        row = Row(52)
        for _ in range(500):
            one, two = row.swath(2, 20, 4), row.swath(2, 20, 4)
            beats = [beat for beat in range(12) if boxes_meet(frame_at(one, beat), frame_at(two, beat))]
            self.both_ways(one, two, 0, 11, without_a_hole(beats))


class WhatIsTold(unittest.TestCase):
    """[0.3]: a tuple of two numbers, or None."""

    def test_kinds(self):
        for told in (beats_of(3, 1, 0, 9), beats_of(3, 0, 0, 9), meeting(*[still_swath(((0, 1), (0, 1)))] * 2, 0, 9)):
            self.assertTrue(told_plainly(told))
            self.assertTrue(told is None or [type(beat) for beat in told] == [int, int])


if __name__ == "__main__":
    unittest.main()
