"""[7.1] to [7.3]: asking by a want."""

import unittest

from driftwood.ask import all_that, how_many
from driftwood.grow import put_thing
from driftwood.laying import laid_tree
from driftwood.pages import make_fork, make_leaf, things_in
from driftwood.things import make_thing
from driftwood.wants import (
    Anything, Both, Crosses, Either, Holds, Inside, Marked, Meets, Near, Touched, Unless, Want, Worthy)
from tests.helper import Row, mixed_want, pages_beneath, paper_by_the_words, suits_by_the_words, told_plainly

PLACE = 10**30
LAST = 10**15
KINDS = (Anything, Meets, Inside, Holds, Near, Marked, Touched, Crosses, Worthy, Both, Either, Unless)


def word_by_the_words(want, told, beat):
    if told is None:
        return "shut"
    return {"none": "shut", "every": "whole", "open": "open"}[want.verdict(told, beat)]


def suiting(top, want, beat):
    return [thing for thing in things_in(top) if suits_by_the_words(want, thing, beat)]


class Asking(unittest.TestCase):
    def ask(self, top, want, beat):
        """Both questions against going through all things one by one, and the paper by the words of [7.1]."""
        paper = paper_by_the_words(top, lambda told: word_by_the_words(want, told, beat))
        due = suiting(top, want, beat)
        self.assertEqual(all_that(top, want, beat), (tuple(sorted(thing[0] for thing in due)), paper))
        worths = [thing[3] for thing in due]
        ends = (min(worths), max(worths)) if worths else (None, None)
        self.assertEqual(how_many(top, want, beat), (len(due), sum(worths), *ends, paper))
        return paper


class ByHand(Asking):
    """[7.1], [7.3]: answers and papers written out"""

    # Three leaves in a row from left to right, the first two under one fork.
    LEFT = make_leaf((make_thing(5, ((0, 1), (0, 1)), None, 1, 10), make_thing(3, ((2, 3), (0, 1)), None, 3, -4)))
    MIDDLE = make_leaf((make_thing(9, ((6, 7), (0, 1)), (1, 0), 1, 7),))
    RIGHT = make_leaf((make_thing(1, ((20, 21), (0, 1)), None, 0, 1), make_thing(2, ((24, 25), (0, 1)), (-5, 0), 0, 2)))
    TOP = make_fork((make_fork((LEFT, MIDDLE)), RIGHT))

    def test_some_open_some_shut_some_whole(self):
        want = Meets(((3, 9), (0, 0)))
        self.assertEqual(all_that(self.TOP, want), (
            (3, 9), (((), "open"), ((0,), "open"), ((0, 0), "open"), ((0, 1), "whole"), ((1,), "shut"))))
        self.assertEqual(how_many(self.TOP, want)[:4], (2, 3, -4, 7))

    def test_at_a_beat(self):
        want = Meets(((3, 9), (0, 0)))
        self.assertEqual(all_that(self.TOP, want, 3), (
            (2, 3, 9), (((), "open"), ((0,), "open"), ((0, 0), "open"), ((0, 1), "whole"), ((1,), "open"))))
        self.assertEqual(how_many(self.TOP, want, 3)[:4], (3, 5, -4, 7))
        self.assertEqual(all_that(self.TOP, want, beat=4)[0], (2, 3))

    def test_a_fork_whole_and_a_fork_shut(self):
        self.assertEqual(all_that(self.TOP, Marked(1)), ((3, 5, 9), (((), "open"), ((0,), "whole"), ((1,), "shut"))))
        self.assertEqual(how_many(self.TOP, Marked(1)), (3, 13, -4, 10, (((), "open"), ((0,), "whole"), ((1,), "shut"))))
        self.assertEqual(all_that(self.TOP, Unless(Marked(1))), ((1, 2), (((), "open"), ((0,), "shut"), ((1,), "whole"))))

    def test_all_and_none(self):
        self.assertEqual(all_that(self.TOP, Anything()), ((1, 2, 3, 5, 9), (((), "whole"),)))
        self.assertEqual(how_many(self.TOP, Anything()), (5, 16, -4, 10, (((), "whole"),)))
        self.assertEqual(all_that(self.TOP, Want()), ((), (((), "shut"),)))
        self.assertEqual(how_many(self.TOP, Want()), (0, 0, None, None, (((), "shut"),)))

    def test_open_to_the_leaves_but_nothing_suits(self):
        top = make_leaf((make_thing(1, ((0, 0), (0, 0))), make_thing(2, ((9, 9), (0, 0)))))
        self.assertEqual(all_that(top, Meets(((5, 5), (0, 0)))), ((), (((), "open"),)))
        self.assertEqual(how_many(top, Meets(((5, 5), (0, 0)))), (0, 0, None, None, (((), "open"),)))

    def test_the_beat_is_nought_where_left_out(self):
        top = make_leaf((make_thing(1, ((0, 0), (0, 0)), (1, 0), 0, 5), make_thing(2, ((9, 9), (0, 0)), (1, 0))))
        want = Meets(((0, 0), (0, 0)))
        self.assertEqual(all_that(top, want), ((1,), (((), "open"),)))
        self.assertEqual(how_many(top, want), (1, 5, 5, 5, (((), "open"),)))
        for beat in (1, 2):
            self.assertEqual(all_that(top, want, beat), ((), (((), "shut"),)))

    def test_by_the_names_of_what_is_handed_in(self):
        self.assertEqual(all_that(want=Anything(), top=self.TOP, beat=3), all_that(self.TOP, Anything(), 3))
        self.assertEqual(how_many(want=Anything(), top=self.TOP, beat=3), how_many(self.TOP, Anything(), 3))

    def test_no_things(self):
        empty = make_leaf(())
        for top in (empty, make_fork((empty,)), make_fork((make_fork((empty, empty)), empty))):
            for want in (Anything(), Unless(Want()), Marked(0)):
                self.assertEqual(all_that(top, want), ((), (((), "shut"),)))
                self.assertEqual(how_many(top, want), (0, 0, None, None, (((), "shut"),)))

    def test_one_thing(self):
        thing = make_thing(10**18, ((0, 4), (0, 4)), (PLACE // LAST, 0), 65535, -PLACE)
        for top in (make_leaf((thing,)), make_fork((make_leaf((thing,)),))):
            self.assertEqual(all_that(top, Marked(65535)), ((10**18,), (((), "whole"),)))
            self.assertEqual(how_many(top, Worthy(-PLACE)), (1, -PLACE, -PLACE, -PLACE, (((), "whole"),)))
            self.assertEqual(all_that(top, Worthy(1 - PLACE)), ((), (((), "shut"),)))
            self.assertEqual(all_that(top, Meets(((PLACE, PLACE), (4, 4))), LAST), ((10**18,), (((), "whole"),)))

    def test_leaves_without_things_are_shut(self):
        empty = make_leaf(())
        top = make_fork((empty, self.LEFT, make_fork((empty,)), make_fork((self.RIGHT, empty))))
        self.assertEqual(all_that(top, Touched(2)), (
            (3,), (((), "open"), ((0,), "shut"), ((1,), "open"), ((2,), "shut"), ((3,), "shut"))))


class Mixed(Asking):
    """[7.1] to [7.3] against going through all things one by one"""

    def test_trees_of_any_shape(self):
        row = Row(100)
        seen = {}
        for count in range(2500):
            sides = 2 + count % 2
            top = row.tree(row.small_things(row.number(0, 14), sides), row.number(0, 4))
            want, beat = mixed_want(row, sides, 2), row.number(0, 5)
            paper = self.ask(top, want, beat)
            for path, word in paper:
                seen.setdefault(type(want), set()).add(word)
        for kind in KINDS[1:]:
            self.assertEqual(seen[kind], {"shut", "whole", "open"}, kind)
        self.assertEqual(seen[Anything], {"shut", "whole"})

    def test_healthy_trees(self):
        row = Row(101)
        for count in range(60):
            room, sides = 4 + count % 13, 2 + count % 2
            things = row.small_things(120, sides)
            top = laid_tree(things, room)
            for thing in (row.small_thing(2000, sides), row.small_thing(2001, sides)):
                top = put_thing(top, room, thing)
            for _ in range(4):
                self.ask(top, mixed_want(row, sides, 2), row.number(0, 5))

    def test_trees_twelve_high(self):
        row = Row(102)
        for sides in (2, 3):
            page = make_leaf(row.small_things(3, sides))
            for handle in range(2000, 2012):
                page = make_fork((make_leaf(()), page, make_leaf((row.small_thing(handle, sides),))))
            for _ in range(60):
                self.ask(page, mixed_want(row, sides, 2), row.number(0, 5))

    def test_each_thing_beneath_just_one_row(self):
        """[7.2]"""
        row = Row(103)
        for count in range(200):
            top = row.tree(row.small_things(12, 2), 3)
            pages = dict(pages_beneath(top))
            beneath = []
            for path, word in all_that(top, mixed_want(row, 2, 1), 1)[1]:
                if word != "open" or pages[path][0] == "leaf":
                    beneath += things_in(pages[path])
            self.assertEqual(sorted(beneath), sorted(things_in(top)))

    def test_many_figures(self):
        row = Row(104)
        things = tuple(
            make_thing(10**18 - k, row.box(3, PLACE), row.point(3, LAST), row.number(0, 65535), row.number(-PLACE, PLACE))
            for k in range(60))
        for top in (laid_tree(things, 4), row.tree(things, 4)):
            for _ in range(25):
                for want in (
                        Meets(row.box(3, PLACE)), Inside(row.box(3, PLACE)), Holds(((7, 7),) * 3),
                        Near(row.box(3, PLACE), row.number(0, 10**62)), Worthy(row.number(-PLACE, PLACE))):
                    self.ask(top, want, row.number(0, LAST))


class Kept(unittest.TestCase):
    def test_kinds_and_nothing_changed(self):
        row = Row(105)
        top = row.tree(row.small_things(40, 2), 4)
        before = repr(top)
        for _ in range(50):
            want = mixed_want(row, 2, 2)
            first = all_that(top, want, 1), how_many(top, want, 1)
            self.assertTrue(told_plainly(first))
            self.assertEqual((all_that(top, want, 1), how_many(top, want, 1)), first)
        self.assertEqual(repr(top), before)

    def test_what_is_beneath_shut_and_whole_pages_is_not_judged(self):
        """[0.1]: their own few numbers are enough."""
        row = Row(106)
        shut = make_leaf(tuple(row.small_thing(k, 2) for k in range(5)))
        far = make_leaf((make_thing(90, ((500, 501), (0, 0))),))
        top = make_fork((make_fork((far,))[:2] + (None,), shut))
        self.assertEqual(all_that(top, Meets(((-99, 99), (-99, 99)))), ((0, 1, 2, 3, 4), (((), "open"), ((0,), "shut"), ((1,), "whole"))))
        self.assertEqual(how_many(make_fork((shut,))[:2] + (None,), Anything())[0], 5)


if __name__ == "__main__":
    unittest.main()
