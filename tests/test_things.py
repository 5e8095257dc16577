"""[4.1], [4.2], and of [0.2] and [0.4] what they say of a thing and of a told."""

import unittest
from itertools import permutations, product

from driftwood import bounds
from driftwood.things import make_thing, thing_box, thing_told, told_poured, tolds_poured
from tests.helper import NO_NUMBERS, Row, refusals_of, told_plainly

PLACE = 10**30
SPEED = 10**15
BOX = ((1, 4), (-2, 2))
ROOM = ((1, 4), (-2, 2), (0, 0))


def poured_by_the_words(things):
    """The told of [0.4], each part by going through all things."""
    swaths = [thing[1] for thing in things]
    marks = [thing[2] for thing in things]
    worths = [thing[3] for thing in things]
    sides = list(zip(*swaths))
    columns = [list(zip(*side)) for side in sides]
    cover = tuple((min(low), max(high), min(slow), max(fast)) for low, high, slow, fast in columns)
    heart = tuple((max(low), min(high), max(slow), min(fast)) for low, high, slow, fast in columns)
    some = sum(2**k for k in range(16) if any(number >> k & 1 for number in marks))
    every = sum(2**k for k in range(16) if all(number >> k & 1 for number in marks))
    return (cover, heart, some, every, len(things), min(worths), max(worths), sum(worths))


def mixed_things(row, many, sides):
    return [
        make_thing(handle, row.box(sides, 50), row.point(sides, 9), row.number(0, 65535), row.number(-99, 99))
        for handle in range(many)]


class Making(unittest.TestCase):
    """[4.1]"""

    def test_all_five(self):
        self.assertEqual(
            make_thing(7, BOX, (3, -5), 9, -40), (7, ((1, 4, 3, 3), (-2, 2, -5, -5)), 9, -40))
        self.assertEqual(
            make_thing(7, ROOM, (3, -5, 1), 9, -40), (7, ((1, 4, 3, 3), (-2, 2, -5, -5), (0, 0, 1, 1)), 9, -40))

    def test_left_out(self):
        self.assertEqual(make_thing(7, BOX), (7, ((1, 4, 0, 0), (-2, 2, 0, 0)), 0, 0))
        self.assertEqual(make_thing(7, ROOM), (7, ((1, 4, 0, 0), (-2, 2, 0, 0), (0, 0, 0, 0)), 0, 0))
        self.assertEqual(make_thing(7, BOX, (3, -5)), (7, ((1, 4, 3, 3), (-2, 2, -5, -5)), 0, 0))
        self.assertEqual(make_thing(7, BOX, (3, -5), 9), (7, ((1, 4, 3, 3), (-2, 2, -5, -5)), 9, 0))

    def test_speeds_none(self):
        self.assertEqual(make_thing(7, BOX, None, 9, 8), (7, ((1, 4, 0, 0), (-2, 2, 0, 0)), 9, 8))
        self.assertEqual(make_thing(7, ROOM, None), make_thing(7, ROOM, (0, 0, 0)))

    def test_by_their_names(self):
        thing = make_thing(7, BOX, (3, -5), 9, -40)
        self.assertEqual(make_thing(worth=-40, marks=9, speeds=(3, -5), box=BOX, handle=7), thing)
        self.assertEqual(make_thing(7, BOX, worth=3), (7, ((1, 4, 0, 0), (-2, 2, 0, 0)), 0, 3))
        self.assertEqual(make_thing(7, BOX, marks=3), (7, ((1, 4, 0, 0), (-2, 2, 0, 0)), 3, 0))
        self.assertEqual(make_thing(7, BOX, speeds=(1, 0)), (7, ((1, 4, 1, 1), (-2, 2, 0, 0)), 0, 0))

    def test_at_the_bounds(self):
        self.assertEqual(
            make_thing(10**18, ((-PLACE, PLACE), (PLACE, PLACE)), (SPEED, -SPEED), 65535, PLACE),
            (10**18, ((-PLACE, PLACE, SPEED, SPEED), (PLACE, PLACE, -SPEED, -SPEED)), 65535, PLACE))
        self.assertEqual(
            make_thing(0, ((-PLACE, -PLACE),) * 3, (0, 0, 0), 0, -PLACE),
            (0, ((-PLACE, -PLACE, 0, 0),) * 3, 0, -PLACE))

    def test_the_bounds_are_those_told(self):
        told = (bounds.PLACE_BOUND, bounds.SPEED_BOUND, bounds.BEAT_BOUND, bounds.HANDLE_BOUND, bounds.MARKS_BOUND,
                bounds.WORTH_BOUND, bounds.FAR_BOUND)
        self.assertEqual(told, (10**30, 10**15, 10**15, 10**18, 65535, 10**30, 10**62))

    def test_the_box_at_a_beat(self):
        thing = make_thing(7, ROOM, (3, -5, 0), 9, -40)
        self.assertEqual(thing_box(thing, 0), ROOM)
        self.assertEqual(thing_box(thing, 10), ((31, 34), (-52, -48), (0, 0)))
        self.assertEqual(thing_box(thing, 10**15)[0], (3 * 10**15 + 1, 3 * 10**15 + 4))

    def test_kinds(self):
        self.assertTrue(told_plainly(make_thing(7, BOX, (3, -5), 9, -40)))
        self.assertTrue(told_plainly(make_thing(7, BOX)))
        self.assertTrue(told_plainly(thing_box(make_thing(7, BOX), 3)))


class Refusing(unittest.TestCase):
    """[4.1]: each of the five spoiled in every way."""

    def refused(self, handle=7, box=BOX, speeds=(3, -5), marks=9, worth=-40):
        self.assertEqual(refusals_of(make_thing, handle, box, speeds, marks, worth), ("NoThing",))

    def test_the_pattern_itself_is_taken(self):
        self.assertEqual(refusals_of(make_thing, 7, BOX, (3, -5), 9, -40), ())
        self.assertEqual(refusals_of(make_thing, 7, ROOM, (3, -5, 0), 9, -40), ())

    def test_what_is_no_number(self):
        for value in NO_NUMBERS:
            with self.subTest(value):
                self.refused(handle=value)
                self.refused(marks=value)
                self.refused(worth=value)
                for place in range(2):
                    ends = tuple(value if k == place else 1 for k in range(2))
                    self.refused(box=(ends, (-2, 2)))
                    self.refused(box=((1, 4), ends))
                    self.refused(speeds=ends)
                self.refused(box=((1, 4), (-2, 2), (0, value)), speeds=(1, 1, 1))
                self.refused(box=ROOM, speeds=(1, 1, value))

    def test_handles_beyond(self):
        for value in (-1, 10**18 + 1, -10**18, 10**40):
            self.refused(handle=value)

    def test_marks_beyond(self):
        for value in (-1, 65536, 10**40):
            self.refused(marks=value)

    def test_worths_beyond(self):
        for value in (-PLACE - 1, PLACE + 1, 10**400):
            self.refused(worth=value)

    def test_places_beyond(self):
        for side in ((-PLACE - 1, 0), (0, PLACE + 1), (PLACE + 1, PLACE + 1), (-PLACE - 1, -PLACE - 1)):
            self.refused(box=(side, (0, 0)))
            self.refused(box=((0, 0), side))
            self.refused(box=((0, 0), (0, 0), side), speeds=None)

    def test_speeds_beyond(self):
        for speed in (-SPEED - 1, SPEED + 1, 10**30):
            self.refused(speeds=(speed, 0))
            self.refused(speeds=(0, speed))
            self.refused(box=ROOM, speeds=(0, 0, speed))

    def test_low_above_high(self):
        self.refused(box=((4, 1), (-2, 2)))
        self.refused(box=((1, 4), (2, 1)))
        self.refused(box=((1, 4), (-2, 2), (1, 0)), speeds=None)

    def test_what_is_no_box(self):
        values = NO_NUMBERS + (
            7, ((1, 4),), ((1, 4),) * 4, ((1, 4),) * 7, "ab", ("ab", "cd"), ((1, 4), None), ((1, 4), 3), (1, 4),
            [(1, 4), (-2, 2)], ([1, 4], (-2, 2)), ((1, 4), [-2, 2]), ((1, 4), (-2, 2), [0, 0]), {0: (1, 4), 1: (-2, 2)},
            ((1,), (-2, 2)), ((1, 4, 5), (-2, 2)), ((1, 4), ()), ((1, 4), (-2, 0, 2)), ((1, 4, 0, 0), (-2, 2, 0, 0)),
            (((1, 4), (-2, 2)), ((1, 4), (-2, 2))))
        for value in values:
            with self.subTest(value):
                self.refused(box=value)
                self.refused(box=value, speeds=None)

    def test_what_are_no_speeds(self):
        values = [value for value in NO_NUMBERS if value is not None]
        values += [7, 0, (3,), (3, -5, 0), (3, -5, 0, 0), [3, -5], "ab", ((3, -5), (0, 0)), {3: 3, -5: -5}]
        for value in values:
            with self.subTest(value):
                self.refused(speeds=value)
        for value in ((3, -5), (3, -5, 0, 0), [3, -5, 0]):
            self.refused(box=ROOM, speeds=value)

    def test_each_alone_where_the_others_are_left_out(self):
        self.assertEqual(refusals_of(make_thing, -1, BOX), ("NoThing",))
        self.assertEqual(refusals_of(make_thing, 7, None), ("NoThing",))
        self.assertEqual(refusals_of(make_thing, 7, BOX, ()), ("NoThing",))
        self.assertEqual(refusals_of(make_thing, 7, BOX, marks=None), ("NoThing",))
        self.assertEqual(refusals_of(make_thing, 7, BOX, worth=None), ("NoThing",))

    def test_all_spoiled(self):
        self.refused(None, None, 5, None, None)
        self.refused([], [], [], [], [])

    def test_what_is_handed_in_stays(self):
        given = [[1, 4], [-2, 2]]
        self.refused(box=given)
        self.assertEqual(given, [[1, 4], [-2, 2]])


class Telling(unittest.TestCase):
    """[4.2]"""

    ONE = make_thing(1, ((0, 5), (3, 3)), (2, -1), 0b0110, 10)
    TWO = make_thing(2, ((-3, 4), (4, 9)), (-1, 0), 0b0011, -7)

    def test_one_thing(self):
        swath = ((0, 5, 2, 2), (3, 3, -1, -1))
        self.assertEqual(thing_told(self.ONE), (swath, swath, 0b0110, 0b0110, 1, 10, 10, 10))
        swath = ((0, 0, 0, 0),) * 3
        self.assertEqual(thing_told(make_thing(3, ((0, 0),) * 3)), (swath, swath, 0, 0, 1, 0, 0, 0))

    def test_two_things(self):
        one, two = thing_told(self.ONE), thing_told(self.TWO)
        told = (((-3, 5, -1, 2), (3, 9, -1, 0)), ((0, 4, 2, -1), (4, 3, 0, -1)), 0b0111, 0b0010, 2, -7, 10, 3)
        self.assertEqual(told_poured(one, two), told)
        self.assertEqual(told_poured(two, one), told)

    def test_worths_alike(self):
        one = thing_told(self.ONE)
        self.assertEqual(told_poured(one, one), one[:4] + (2, 10, 10, 20))

    def test_none_on_either_side(self):
        one = thing_told(self.ONE)
        self.assertEqual(told_poured(None, one), one)
        self.assertEqual(told_poured(one, None), one)
        self.assertIsNone(told_poured(None, None))

    def test_rows_without_any(self):
        self.assertIsNone(tolds_poured(()))
        self.assertIsNone(tolds_poured((None,)))
        self.assertIsNone(tolds_poured((None, None, None)))

    def test_rows_with_none_among_them(self):
        one, two = thing_told(self.ONE), thing_told(self.TWO)
        due = poured_by_the_words((self.ONE, self.TWO))
        for row in set(permutations((one, two, None, None))):
            self.assertEqual(tolds_poured(row), due)
        self.assertEqual(tolds_poured((None, one)), one)
        self.assertEqual(tolds_poured((one,)), one)

    def test_many(self):
        row = Row(41)
        for sides, many in product((2, 3), (1, 2, 3, 10, 100)):
            things = mixed_things(row, many, sides)
            tolds = tuple(thing_told(thing) for thing in things)
            self.assertEqual(tolds_poured(tolds), poured_by_the_words(things))

    def test_poured_in_any_order_and_in_parts(self):
        row = Row(42)
        things = mixed_things(row, 30, 3)
        tolds = tuple(thing_told(thing) for thing in things)
        due = poured_by_the_words(things)
        self.assertEqual(tolds_poured(tolds[::-1]), due)
        for cut in (0, 1, 11, 30):
            self.assertEqual(told_poured(tolds_poured(tolds[:cut]), tolds_poured(tolds[cut:])), due)

    def test_far_numbers(self):
        one = make_thing(0, ((-PLACE, PLACE),) * 2, (SPEED, -SPEED), 65535, PLACE)
        two = make_thing(1, ((PLACE, PLACE), (-PLACE, -PLACE)), (-SPEED, SPEED), 0, PLACE)
        due = (((-PLACE, PLACE, -SPEED, SPEED),) * 2,
               ((PLACE, PLACE, SPEED, -SPEED), (-PLACE, -PLACE, SPEED, -SPEED)), 65535, 0, 2, PLACE, PLACE, 2 * PLACE)
        self.assertEqual(tolds_poured((thing_told(one), thing_told(two))), due)

    def test_kinds(self):
        tolds = (thing_told(self.ONE), None, thing_told(self.TWO))
        self.assertTrue(told_plainly(tolds))
        self.assertTrue(told_plainly(tolds_poured(tolds)))


if __name__ == "__main__":
    unittest.main()
