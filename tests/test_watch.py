"""[10.4], of a watch by itself."""

import unittest

from driftwood.things import make_thing
from driftwood.wants import Anything, Marked, Meets, Want
from driftwood.watch import Watch
from tests.helper import Row, mixed_want, suits_by_the_words, told_plainly


def at(place, speed=0, handle=1):
    return make_thing(handle, ((place, place), (0, 0)), (speed, 0))


class Watching(unittest.TestCase):
    WANT = Meets(((0, 9), (0, 9)))

    def test_nothing_heard(self):
        watch = Watch(self.WANT, 0)
        self.assertEqual((watch.heard_now(), watch.heard_now()), ((), ()))

    def test_each_change(self):
        here, also, away, off = at(3), at(9), at(10), at(-1)
        for old, new, due in (
                (None, here, (("came", 1),)), (None, away, ()), (here, None, (("went", 1),)), (away, None, ()),
                (here, away, (("went", 1),)), (away, here, (("came", 1),)), (here, also, ()), (away, off, ()),
                (None, None, ())):
            watch = Watch(self.WANT, 0)
            self.assertIsNone(watch.changed(old, new))
            self.assertEqual(watch.heard_now(), due)
            self.assertEqual(watch.heard_now(), ())

    def test_in_the_order_of_the_deeds(self):
        watch = Watch(self.WANT, 0)
        for old, new in ((None, at(3, 0, 7)), (None, at(4, 0, 2)), (at(3, 0, 7), None), (None, at(20, 0, 5)), (None, at(0, 0, 7))):
            watch.changed(old, new)
        due = (("came", 7), ("came", 2), ("went", 7), ("came", 7))
        self.assertEqual(watch.heard_now(), due)
        watch.changed(at(4, 0, 2), at(40, 0, 2))
        self.assertEqual(watch.heard_now(), (("went", 2),))

    def test_what_was_told_stays(self):
        watch = Watch(self.WANT, 0)
        watch.changed(None, at(3))
        told = watch.heard_now()
        watch.changed(at(3), None)
        self.assertEqual(told, (("came", 1),))
        self.assertTrue(told_plainly(told))

    def test_at_its_beat(self):
        for beat, due in ((0, ()), (1, ()), (2, (("came", 1),)), (5, (("came", 1),)), (6, ())):
            watch = Watch(self.WANT, beat)
            watch.changed(None, at(-6, 3))
            self.assertEqual(watch.heard_now(), due)

    def test_of_other_wants(self):
        bare, marked = at(3), make_thing(1, ((3, 3), (0, 0)), None, 4)
        for want, due in ((Marked(4), (("came", 1),)), (Anything(), ()), (Want(), ())):
            watch = Watch(want, 0)
            watch.changed(bare, marked)
            self.assertEqual(watch.heard_now(), due)

    def test_two_side_by_side(self):
        one, two = Watch(self.WANT, 0), Watch(self.WANT, 0)
        one.changed(None, at(3))
        self.assertEqual((two.heard_now(), one.heard_now()), ((), (("came", 1),)))

    def test_by_the_names_of_what_is_handed_in(self):
        watch = Watch(beat=2, want=self.WANT)
        watch.changed(new=at(-6, 3), old=None)
        self.assertEqual(watch.heard_now(), (("came", 1),))

    def test_mixed_changes(self):
        row = Row(170)
        for count in range(300):
            want, beat = mixed_want(row, 2, 2), row.number(0, 5)
            watch, due = Watch(want, beat), []
            for _ in range(6):
                old, new = [row.small_thing(9, 2) if row.number(0, 3) else None for _ in range(2)]
                watch.changed(old, new)
                before, behind = [thing is not None and suits_by_the_words(want, thing, beat) for thing in (old, new)]
                if before != behind:
                    due.append(("came" if behind else "went", 9))
            self.assertEqual(watch.heard_now(), tuple(due))


if __name__ == "__main__":
    unittest.main()
