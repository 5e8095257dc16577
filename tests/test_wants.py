"""[4.3], [4.4], and of [4.5] how a want is written."""

import unittest
from itertools import product

from driftwood.boxes import box_gap, box_inside, boxes_meet
from driftwood.swaths import frame_at
from driftwood.things import make_thing, thing_told, tolds_poured
from driftwood.wants import (
    Anything, Both, Crosses, Either, Holds, Inside, Marked, Meets, Near, Touched, Unless, Want, Worthy)
from tests.helper import Row, mixed_want, suits_by_the_words, told_plainly

LAST = 10**15
PLACE = 10**30
BOX = ((0, 4), (0, 4))
KINDS = (Anything, Meets, Inside, Holds, Near, Marked, Touched, Crosses, Worthy, Both, Either, Unless)


def still(*box):
    return make_thing(1, box)


def told_of(*things):
    return tolds_poured(tuple(thing_told(thing) for thing in things))


class Fixed(Want):
    """A want with a verdict that is set, to look at what is made of it."""

    def __init__(self, word):
        self.word = word

    def suits(self, thing, beat):
        return self.word == "every"

    def verdict(self, told, beat):
        return self.word

    def written(self):
        return self.word


class Kinds(unittest.TestCase):
    def test_each_stands_under_want_and_under_no_other_one(self):
        for kind, other in product(KINDS, repeat=2):
            self.assertTrue(issubclass(kind, Want))
            self.assertEqual(issubclass(kind, other), kind is other)

    def test_want_itself(self):
        thing = still((0, 4), (0, 4))
        self.assertIs(Want().suits(thing, 0), False)
        self.assertEqual(Want().verdict(thing_told(thing), 0), "none")
        self.assertEqual(Want().written(), "")

    def test_by_the_names_of_what_is_handed_in(self):
        wants = (
            Meets(box=BOX), Inside(box=BOX), Holds(box=BOX), Near(far=3, box=BOX), Marked(marks=3), Touched(marks=3),
            Crosses(last=9, first=3, box=BOX), Worthy(least=3), Both(two=Anything(), one=Marked(1)),
            Either(two=Anything(), one=Marked(1)), Unless(one=Anything()))
        self.assertEqual([want.written() for want in wants], [
            "meets 0..4,0..4", "inside 0..4,0..4", "holds 0..4,0..4", "near 0..4,0..4 3", "marked 3", "touched 3",
            "crosses 0..4,0..4 3 9", "worthy 3", "marked 1 and anything", "marked 1 or anything", "not anything"])


class Suits(unittest.TestCase):
    """[4.3]"""

    def suit(self, want, thing, due, beat=0):
        self.assertIs(want.suits(thing, beat), due)
        self.assertIs(Unless(want).suits(thing, beat), not due)
        self.assertEqual(want.verdict(thing_told(thing), beat), "every" if due else "none")

    def test_anything(self):
        self.suit(Anything(), still((0, 0), (9, 9)), True)
        self.suit(Anything(), make_thing(9, ((0, 1),) * 3, (1, 2, 3)), True, LAST)

    def test_meets(self):
        want = Meets(BOX)
        for side, due in (((4, 9), True), ((5, 9), False), ((-3, 0), True), ((-3, -1), False), ((2, 2), True), ((-9, 9), True)):
            self.suit(want, still(side, (1, 2)), due)
            self.suit(want, still((1, 2), side), due)
        self.suit(want, still((4, 9), (4, 9)), True)
        self.suit(want, still((4, 9), (5, 9)), False)
        self.suit(Meets(((0, 4),) * 3), still((4, 5), (-1, 0), (4, 4)), True)
        self.suit(Meets(((0, 4),) * 3), still((4, 5), (-1, 0), (5, 5)), False)

    def test_inside(self):
        want = Inside(BOX)
        for side, due in (((0, 4), True), ((1, 3), True), ((0, 5), False), ((-1, 4), False), ((4, 4), True), ((5, 5), False)):
            self.suit(want, still(side, (0, 4)), due)
            self.suit(want, still((2, 2), side), due)
            self.suit(Inside(((0, 4),) * 3), still((0, 4), (1, 1), side), due)

    def test_holds(self):
        want = Holds(BOX)
        for side, due in (((0, 4), True), ((-1, 5), True), ((1, 4), False), ((0, 3), False), ((2, 2), False)):
            self.suit(want, still(side, (0, 4)), due)
            self.suit(want, still((-9, 9), side), due)
            self.suit(Holds(((0, 4),) * 3), still((-9, 9), (0, 4), side), due)

    def test_near(self):
        for side, gap in (((7, 9), 9), ((-9, -5), 25), ((4, 4), 0), ((5, 5), 1)):
            for far in (gap - 1, gap, gap + 1):
                if far >= 0:
                    self.suit(Near(BOX, far), still(side, (1, 2)), far >= gap)
                    self.suit(Near(BOX, far), still((1, 2), side), far >= gap)
        self.suit(Near(BOX, 25), still((7, 7), (-4, -4)), True)
        self.suit(Near(BOX, 24), still((7, 7), (-4, -4)), False)
        self.suit(Near(((0, 4),) * 3, 14), still((5, 5), (6, 6), (-3, -3)), True)
        self.suit(Near(((0, 4),) * 3, 13), still((5, 5), (6, 6), (-3, -3)), False)

    def test_far_ends(self):
        thing = make_thing(1, ((PLACE, PLACE),) * 3, (10**15,) * 3)
        box = ((-PLACE, -PLACE),) * 3
        self.suit(Near(box, 12 * 10**60), thing, True)
        self.suit(Near(box, 12 * 10**60 - 1), thing, False)
        self.suit(Near(box, 27 * 10**60), thing, True, LAST)
        self.suit(Near(box, 27 * 10**60 - 1), thing, False, LAST)
        self.suit(Near(box, 10**62), thing, True, LAST)

    def test_marked(self):
        for marks, asked, due in (
                (0b0110, 0b0110, True), (0b0110, 0b0100, True), (0b0110, 0b0111, False), (0b0110, 0b1000, False),
                (0b0110, 0, True), (0, 0, True), (0, 1, False), (65535, 65535, True), (65534, 65535, False),
                (32768, 32768, True), (32767, 32768, False)):
            self.suit(Marked(asked), make_thing(1, BOX, None, marks), due)

    def test_touched(self):
        for marks, asked, due in (
                (0b0110, 0b0110, True), (0b0110, 0b0100, True), (0b0110, 0b1101, True), (0b0110, 0b1001, False),
                (0b0110, 0, False), (0, 0, False), (0, 65535, False), (65535, 0, False), (65535, 1, True),
                (32768, 32768, True), (32767, 32768, False)):
            self.suit(Touched(asked), make_thing(1, BOX, None, marks), due)

    def test_crosses(self):
        thing = make_thing(1, ((10, 11), (2, 3)), (-3, 0))
        for first, last, due in (
                (0, 1, False), (0, 2, True), (2, 2, True), (3, 3, True), (3, 9, True), (4, 9, False), (0, LAST, True),
                (3, 2, False), (LAST, 0, False)):
            for beat in (0, 2, 3, 77, LAST):
                self.suit(Crosses(BOX, first, last), thing, due, beat)

    def test_crosses_between_two_beats(self):
        thing = make_thing(1, ((10, 11), (2, 3), (0, 0)), (-20, 0, 0))
        self.suit(Crosses(((0, 4),) * 3, 0, LAST), thing, False)
        self.suit(Crosses(((0, 4),) * 3, 0, LAST), make_thing(1, ((10, 11), (2, 3), (0, 0)), (-10, 0, 0)), True)

    def test_crosses_at_the_last_beat(self):
        thing = make_thing(1, ((-PLACE, -PLACE), (0, 0)), (10**15, 0))
        self.suit(Crosses(BOX, 0, LAST), thing, True)
        self.suit(Crosses(BOX, 0, LAST - 1), thing, False)
        self.suit(Crosses(((1, 4), (0, 4)), 0, LAST), thing, False)

    def test_crosses_where_it_stays(self):
        self.suit(Crosses(BOX, 5, 5), still((4, 9), (4, 9)), True)
        self.suit(Crosses(BOX, 5, 4), still((4, 9), (4, 9)), False)
        self.suit(Crosses(BOX, 0, LAST), still((4, 9), (5, 9)), False)

    def test_worthy(self):
        for worth, least, due in ((5, 5, True), (5, 6, False), (5, 4, True), (-5, -5, True), (-6, -5, False), (0, 0, True),
                                  (PLACE, PLACE, True), (PLACE - 1, PLACE, False), (-PLACE, -PLACE, True)):
            self.suit(Worthy(least), make_thing(1, BOX, worth=worth), due)

    def test_at_a_beat(self):
        thing = make_thing(1, ((10, 12), (-8, -7)), (-2, 3))
        for want, beats in (
                (Near(BOX, 9), [2, 3, 4, 5]), (Near(BOX, 8), [2, 3, 4]), (Meets(BOX), [3, 4]),
                (Inside(((2, 6), (1, 5))), [3, 4]), (Inside(((2, 6), (2, 5))), [4]), (Inside(BOX), []),
                (Holds(((4, 4), (1, 2))), [3]), (Holds(((2, 4), (4, 5))), [4]), (Holds(BOX), [])):
            self.assertEqual([beat for beat in range(12) if want.suits(thing, beat)], beats, want.written())

    def test_both_either_unless(self):
        thing = still((0, 0), (0, 0))
        for one, two in product((True, False), repeat=2):
            parts = [Anything() if part else Want() for part in (one, two)]
            self.suit(Both(*parts), thing, one and two)
            self.suit(Either(*parts), thing, one or two)
            self.suit(Unless(parts[0]), thing, not one)

    def test_the_beat_is_handed_on(self):
        thing = make_thing(1, ((10, 12), (-8, -7)), (-2, 3))
        self.suit(Both(Meets(BOX), Near(BOX, 0)), thing, True, 3)
        self.suit(Both(Near(BOX, 9), Meets(BOX)), thing, False, 5)
        self.suit(Either(Want(), Meets(BOX)), thing, True, 3)
        self.suit(Either(Meets(BOX), Want()), thing, False, 2)
        self.suit(Unless(Meets(BOX)), thing, False, 3)


class Verdicts(unittest.TestCase):
    """[4.4]: every, none and open for each kind."""

    def judge(self, want, told, due, beat=0):
        turned = {"every": "none", "none": "every", "open": "open"}
        self.assertEqual(want.verdict(told, beat), due)
        self.assertEqual(Unless(want).verdict(told, beat), turned[due])

    # The heart is ((3, 2), (1, 4)), turned at its first side; the cover ((0, 5), (0, 9)).
    TURNED = told_of(still((0, 2), (0, 4)), still((3, 5), (1, 9)))
    # The heart is ((1, 2), (1, 4)); the cover ((0, 5), (0, 9)).
    CLOSE = told_of(still((0, 2), (0, 4)), still((1, 5), (1, 9)))
    # The first one goes right by 1, the second one left by 2: the heart's speeds are (1, -2), the cover's (-2, 1).
    MOVING = told_of(make_thing(1, ((0, 9), (0, 0)), (1, 0)), make_thing(2, ((1, 8), (0, 0)), (-2, 0)))

    def test_what_the_hearts_are(self):
        self.assertEqual(self.TURNED[1], ((3, 2, 0, 0), (1, 4, 0, 0)))
        self.assertEqual(self.CLOSE[1], ((1, 2, 0, 0), (1, 4, 0, 0)))
        self.assertEqual(self.MOVING[1], ((1, 8, 1, -2), (0, 0, 0, 0)))

    def test_anything(self):
        for told in (self.TURNED, self.CLOSE, self.MOVING):
            self.judge(Anything(), told, "every")

    def test_meets(self):
        for box, due in ((((2, 3), (4, 4)), "every"), (((2, 2), (4, 4)), "open"), (((3, 3), (4, 4)), "open"),
                         (((2, 3), (5, 5)), "open"), (((5, 9), (9, 9)), "open"), (((6, 9), (9, 9)), "none"),
                         (((2, 3), (10, 10)), "none"), (((-9, 9), (-9, 9)), "every")):
            self.judge(Meets(box), self.TURNED, due)
        for box, due in ((((2, 2), (1, 1)), "every"), (((0, 0), (1, 1)), "open"), (((-1, -1), (1, 1)), "none")):
            self.judge(Meets(box), self.CLOSE, due)

    def test_inside(self):
        for box, due in ((((0, 5), (0, 9)), "every"), (((0, 5), (0, 8)), "open"), (((1, 5), (0, 9)), "open"),
                         (((3, 5), (0, 9)), "open"), (((0, 2), (0, 4)), "open"), (((3, 3), (1, 4)), "open"),
                         (((2, 2), (1, 4)), "open"), (((4, 5), (0, 9)), "none"), (((0, 1), (0, 9)), "none"),
                         (((0, 5), (0, 3)), "none"), (((0, 5), (2, 9)), "none")):
            self.judge(Inside(box), self.TURNED, due)

    def test_holds(self):
        for box, due in ((((2, 3), (1, 4)), "open"), (((2, 2), (2, 2)), "open"), (((0, 5), (0, 9)), "open"),
                         (((0, 6), (0, 9)), "none"), (((-1, -1), (2, 2)), "none")):
            self.judge(Holds(box), self.TURNED, due)
        for box, due in ((((1, 2), (1, 4)), "every"), (((1, 3), (1, 4)), "open"), (((1, 2), (1, 10)), "none")):
            self.judge(Holds(box), self.CLOSE, due)

    def test_near(self):
        # From (8, 2) the heart's turned side is 6 off by its high, the cover's 3.
        for far, due in ((36, "every"), (35, "open"), (9, "open"), (8, "none")):
            self.judge(Near(((8, 8), (2, 2)), far), self.TURNED, due)
        # From (2, 12) the heart is 1 off by its low 3 and 8 off by its high 4, the cover 3.
        for far, due in ((65, "every"), (64, "open"), (9, "open"), (8, "none")):
            self.judge(Near(((2, 2), (12, 12)), far), self.TURNED, due)
        self.judge(Near(((2, 3), (1, 4)), 0), self.TURNED, "every")
        self.judge(Near(((2, 2), (1, 4)), 0), self.TURNED, "open")

    def test_marked(self):
        told = told_of(make_thing(1, BOX, None, 0b0110), make_thing(2, BOX, None, 0b0011))
        for marks, due in ((0b0010, "every"), (0, "every"), (0b0110, "open"), (0b0111, "open"), (0b1000, "none"),
                           (0b1010, "none"), (0b0001, "open")):
            self.judge(Marked(marks), told, due)

    def test_touched(self):
        told = told_of(make_thing(1, BOX, None, 0b0110), make_thing(2, BOX, None, 0b0011))
        for marks, due in ((0b0010, "every"), (0b1010, "every"), (0, "none"), (0b0101, "open"), (0b0001, "open"),
                           (0b1000, "none"), (0b1001, "open")):
            self.judge(Touched(marks), told, due)

    def test_crosses(self):
        point = ((5, 5), (0, 0))
        for first, last, due in ((0, 0, "every"), (1, 1, "every"), (2, 2, "open"), (2, LAST, "open"), (0, LAST, "every"),
                                 (5, 4, "none")):
            for beat in (0, 3, LAST):
                self.judge(Crosses(point, first, last), self.MOVING, due, beat)
        self.judge(Crosses(((5, 5), (1, 1)), 0, LAST), self.MOVING, "none")
        self.judge(Crosses(((12, 12), (0, 0)), 0, 2), self.MOVING, "none")
        self.judge(Crosses(((12, 12), (0, 0)), 0, 3), self.MOVING, "open")
        self.judge(Crosses(((2, 3), (4, 4)), 0, 0), self.TURNED, "every")
        self.judge(Crosses(((2, 2), (4, 4)), 0, LAST), self.TURNED, "open")

    def test_worthy(self):
        told = told_of(*[make_thing(k, BOX, worth=worth) for k, worth in enumerate((5, -3, 9, 0))])
        for least, due in ((-4, "every"), (-3, "every"), (-2, "open"), (0, "open"), (9, "open"), (10, "none")):
            self.judge(Worthy(least), told, due)

    def test_at_a_beat(self):
        point = ((6, 6), (0, 0))
        # The heart at beat t is from 1 + t to 8 - 2 * t, turned from beat 3 on; the cover from -2 * t to 9 + t.
        for beat, due in ((0, "every"), (1, "every"), (2, "open"), (9, "open"), (LAST, "open")):
            self.judge(Meets(point), self.MOVING, due, beat)
            self.judge(Holds(point), self.MOVING, due, beat)
            self.judge(Near(point, 0), self.MOVING, due, beat)
        for beat, due in ((0, "every"), (1, "open"), (9, "open"), (LAST, "open")):
            self.judge(Inside(((0, 9), (0, 0))), self.MOVING, due, beat)
        for beat, due in ((0, "none"), (3, "none"), (4, "open"), (LAST, "open")):
            self.judge(Inside(((5, 9), (0, 0))), self.MOVING, due, beat)
        for beat, due in ((0, "none"), (1, "none"), (2, "open")):
            self.judge(Meets(((11, 11), (0, 0))), self.MOVING, due, beat)

    def test_both_either_unless_by_their_parts(self):
        told = self.CLOSE
        words = ("every", "none", "open")
        for one, two in product(words, repeat=2):
            both = "none" if "none" in (one, two) else "every" if one == two == "every" else "open"
            either = "every" if "every" in (one, two) else "none" if one == two == "none" else "open"
            self.assertEqual(Both(Fixed(one), Fixed(two)).verdict(told, 0), both)
            self.assertEqual(Either(Fixed(one), Fixed(two)).verdict(told, 0), either)
        self.assertEqual([Unless(Fixed(word)).verdict(told, 0) for word in words], ["none", "every", "open"])

    def test_the_beat_is_handed_on_to_the_parts(self):
        want = Meets(((6, 6), (0, 0)))
        for beat, due in ((1, "every"), (2, "open")):
            self.judge(Both(want, want), self.MOVING, due, beat)
            self.judge(Either(want, want), self.MOVING, due, beat)


def mixed_things(row, sides):
    things = []
    marks = row.number(0, 15)
    for handle in range(row.number(1, 4)):
        lows = row.point(sides, 9)
        box = tuple((low, low + row.number(0, 9)) for low in lows)
        things.append(make_thing(handle, box, row.point(sides, 2), row.number(0, 15) | marks, row.number(-9, 9)))
    return things


class NeverLying(unittest.TestCase):
    """[4.4]: every and none hold for each thing; of one thing nothing is open."""

    def test_many_mixed_wants(self):
        row = Row(44)
        seen = {}
        for count in range(6000):
            sides = 2 + count % 2
            things, want, beat = mixed_things(row, sides), mixed_want(row, sides, 2), row.number(0, 5)
            verdict = want.verdict(told_of(*things), beat)
            answers = [want.suits(thing, beat) for thing in things]
            self.assertEqual(answers, [suits_by_the_words(want, thing, beat) for thing in things])
            if verdict != "open":
                self.assertEqual(set(answers), {verdict == "every"}, want.written())
            for thing, answer in zip(things, answers):
                self.assertEqual(want.verdict(thing_told(thing), beat), "every" if answer else "none")
            key = (type(want).__name__, verdict)
            seen[key] = seen.get(key, 0) + 1
        for kind in KINDS[1:]:
            for verdict in ("every", "none", "open"):
                self.assertGreater(seen.get((kind.__name__, verdict), 0), 0, (kind, verdict))

    def test_as_by_the_words(self):
        """Meets, Inside, Holds, Near by the sides of cover and heart, turned or not."""
        row = Row(45)
        for count in range(2000):
            sides = 2 + count % 2
            told, box, beat, far = told_of(*mixed_things(row, sides)), row.box(sides, 12), row.number(0, 5), row.number(0, 300)
            cover, heart = frame_at(told[0], beat), frame_at(told[1], beat)
            pairs = (
                (Meets(box), boxes_meet(heart, box), not boxes_meet(cover, box)),
                (Inside(box), box_inside(cover, box), not box_inside(heart, box)),
                (Holds(box), box_inside(box, heart), not box_inside(box, cover)),
                (Near(box, far), box_gap(heart, box) <= far, box_gap(cover, box) > far))
            for want, every, none in pairs:
                self.assertFalse(every and none)
                self.assertEqual(want.verdict(told, beat), "every" if every else "none" if none else "open")


class Written(unittest.TestCase):
    """[4.5]"""

    def test_each_kind(self):
        box, room = ((-3, 5), (0, 0)), ((1, 2), (-4, -4), (0, 7))
        for want, text in (
                (Anything(), "anything"), (Meets(box), "meets -3..5,0..0"), (Inside(box), "inside -3..5,0..0"),
                (Holds(room), "holds 1..2,-4..-4,0..7"), (Near(box, 12), "near -3..5,0..0 12"),
                (Near(room, 0), "near 1..2,-4..-4,0..7 0"), (Marked(0), "marked 0"), (Touched(65535), "touched 65535"),
                (Crosses(box, 7, 0), "crosses -3..5,0..0 7 0"), (Crosses(room, 0, LAST), f"crosses 1..2,-4..-4,0..7 0 {LAST}"),
                (Worthy(-1), "worthy -1"), (Worthy(0), "worthy 0"), (Worthy(10), "worthy 10")):
            self.assertEqual(want.written(), text)

    def test_many_figures(self):
        figures = "1" + "0" * 30
        self.assertEqual(
            Meets(((-PLACE, PLACE), (PLACE, PLACE))).written(), f"meets -{figures}..{figures},{figures}..{figures}")
        self.assertEqual(Near(BOX, 10**62).written(), "near 0..4,0..4 1" + "0" * 62)
        self.assertEqual(Worthy(-PLACE).written(), "worthy -" + figures)

    A, B, C, D = Marked(1), Marked(2), Marked(3), Marked(4)

    def written(self, want, text):
        for letter, number in zip("abcd", "1234"):
            text = text.replace(letter + "_", "marked " + number)
        self.assertEqual(want.written(), text)

    def test_without_brackets(self):
        a, b, c, d = self.A, self.B, self.C, self.D
        self.written(Both(a, b), "a_ and b_")
        self.written(Either(a, b), "a_ or b_")
        self.written(Unless(a), "not a_")
        self.written(Unless(Unless(a)), "not not a_")
        self.written(Both(Both(a, b), c), "a_ and b_ and c_")
        self.written(Either(Either(a, b), c), "a_ or b_ or c_")
        self.written(Either(Both(a, b), c), "a_ and b_ or c_")
        self.written(Either(a, Both(b, c)), "a_ or b_ and c_")
        self.written(Either(Both(a, b), Both(c, d)), "a_ and b_ or c_ and d_")
        self.written(Both(Unless(a), Unless(b)), "not a_ and not b_")
        self.written(Either(Unless(a), Unless(b)), "not a_ or not b_")
        self.written(Either(Either(Either(a, b), c), d), "a_ or b_ or c_ or d_")
        self.written(Both(Both(Both(a, b), c), d), "a_ and b_ and c_ and d_")

    def test_with_brackets(self):
        a, b, c, d = self.A, self.B, self.C, self.D
        self.written(Both(Either(a, b), c), "( a_ or b_ ) and c_")
        self.written(Both(a, Either(b, c)), "a_ and ( b_ or c_ )")
        self.written(Both(a, Both(b, c)), "a_ and ( b_ and c_ )")
        self.written(Either(a, Either(b, c)), "a_ or ( b_ or c_ )")
        self.written(Unless(Both(a, b)), "not ( a_ and b_ )")
        self.written(Unless(Either(a, b)), "not ( a_ or b_ )")
        self.written(Both(Either(a, b), Either(c, d)), "( a_ or b_ ) and ( c_ or d_ )")
        self.written(Both(Both(a, b), Both(c, d)), "a_ and b_ and ( c_ and d_ )")
        self.written(Either(Either(a, b), Either(c, d)), "a_ or b_ or ( c_ or d_ )")
        self.written(Either(a, Either(b, Either(c, d))), "a_ or ( b_ or ( c_ or d_ ) )")
        self.written(Both(a, Both(b, Both(c, d))), "a_ and ( b_ and ( c_ and d_ ) )")
        self.written(Unless(Unless(Either(a, b))), "not not ( a_ or b_ )")
        self.written(Unless(Both(Unless(a), Either(b, c))), "not ( not a_ and ( b_ or c_ ) )")
        self.written(Either(Unless(Both(a, b)), Both(Either(c, d), a)), "not ( a_ and b_ ) or ( c_ or d_ ) and a_")

    def test_sixty_deep(self):
        want = Anything()
        for _ in range(60):
            want = Unless(want)
        self.assertEqual(want.written(), "not " * 60 + "anything")
        self.assertIs(want.suits(still((0, 0), (0, 0)), 0), True)
        self.assertEqual(want.verdict(thing_told(still((0, 0), (0, 0))), 0), "every")

    def test_kinds_told(self):
        for word in (Anything().written(), Meets(BOX).written(), Both(Want(), Want()).written()):
            self.assertTrue(told_plainly(word))


if __name__ == "__main__":
    unittest.main()
