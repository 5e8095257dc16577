"""[8.2] to [8.4]: the nearest, and their examiner."""

import unittest

from driftwood.boxes import box_gap
from driftwood.laying import laid_tree
from driftwood.near import near_stands, nearest
from driftwood.pages import make_fork, make_leaf, things_in
from driftwood.swaths import frame_at
from driftwood.things import make_thing, thing_box
from driftwood.wants import Anything, Marked, Meets, Unless, Want, Worthy
from tests.helper import (
    Row, mixed_want, opened_mostly, pages_beneath, paper_by_the_words, spoilt_papers, suits_by_the_words, told_plainly)

PLACE = 10**30
LAST = 10**15
WORDS = ("shut", "far", "open")


def right_rows(top, box, many, beat, want):
    """[8.2] by going through all things one by one."""
    suiting = [thing for thing in things_in(top) if want is None or suits_by_the_words(want, thing, beat)]
    return tuple(sorted((box_gap(thing_box(thing, beat), box), thing[0]) for thing in suiting)[:many])


def is_shut(told, beat, want):
    return told is None or want is not None and want.verdict(told, beat) == "none"


def is_far(told, box, many, beat, rows):
    return many == 0 or len(rows) == many and box_gap(frame_at(told[0], beat), box) > rows[-1][0]


def right_word(told, box, many, beat, want, rows):
    """[8.3]"""
    if is_shut(told, beat, want):
        return "shut"
    return "far" if is_far(told, box, many, beat, rows) else "open"


def all_open(top):
    return tuple((path, "open") for path, page in pages_beneath(top))


class Nearest(unittest.TestCase):
    def ask(self, top, box, many, beat, want):
        rows = right_rows(top, box, many, beat, want)
        paper = paper_by_the_words(top, lambda told: right_word(told, box, many, beat, want, rows))
        self.assertEqual(nearest(top, box, many, beat, want), (rows, paper))
        return rows, paper

    def mixed_question(self, row, count, most=14):
        sides = 2 + count % 2
        things = row.small_things(row.number(0, most), sides)
        top = row.tree(things, row.number(0, 4))
        many = (0, 1, row.number(0, len(things)), len(things), len(things) + row.number(1, 9))[row.number(0, 4)]
        return top, row.box(sides, 9), many, row.number(0, 5), (None, mixed_want(row, sides, 2))[row.number(0, 1)]


class ByHand(Nearest):
    """[8.2], [8.3]: rows and papers written out"""

    LEFT = make_leaf((make_thing(5, ((0, 1), (0, 0)), None, 1), make_thing(3, ((2, 3), (0, 0)), (1, 0), 2)))
    RIGHT = make_leaf((make_thing(9, ((10, 11), (0, 0)), None, 1), make_thing(1, ((14, 15), (0, 0)), None, 1)))
    TOP = make_fork((LEFT, make_fork((RIGHT, make_leaf(())))))
    SPOT = ((4, 4), (0, 0))

    def test_so_many(self):
        rows = ((1, 3), (9, 5), (36, 9), (100, 1))
        for many in range(7):
            self.assertEqual(nearest(self.TOP, self.SPOT, many)[0], rows[:many])

    def test_papers(self):
        left, right = (((), "open"), ((0,), "open"), ((1,), "far")), ((1, 0), "open")
        self.assertEqual(nearest(self.TOP, self.SPOT, 0), ((), (((), "far"),)))
        self.assertEqual(nearest(self.TOP, self.SPOT, 1)[1], left)
        self.assertEqual(nearest(self.TOP, self.SPOT, 2)[1], left)
        for many in (3, 4, 5, 1000):
            self.assertEqual(
                nearest(self.TOP, self.SPOT, many)[1],
                (((), "open"), ((0,), "open"), ((1,), "open"), right, ((1, 1), "shut")))

    def test_a_want(self):
        self.assertEqual(nearest(self.TOP, self.SPOT, 1, 0, Marked(1)), (
            ((9, 5),), (((), "open"), ((0,), "open"), ((1,), "far"))))
        self.assertEqual(nearest(self.TOP, self.SPOT, 4, 0, Marked(2)), (
            ((1, 3),), (((), "open"), ((0,), "open"), ((1,), "shut"))))
        self.assertEqual(nearest(self.TOP, self.SPOT, 4, 0, Want()), ((), (((), "shut"),)))

    def test_shut_goes_ahead_of_far(self):
        self.assertEqual(nearest(self.TOP, self.SPOT, 0, 0, Marked(4)), ((), (((), "shut"),)))
        self.assertEqual(nearest(self.TOP, self.SPOT, 1, 0, Marked(2)), (
            ((1, 3),), (((), "open"), ((0,), "open"), ((1,), "shut"))))

    def test_what_is_left_out(self):
        top = make_leaf((make_thing(1, ((3, 3), (0, 0)), (1, 0)), make_thing(2, ((9, 9), (0, 0)), (1, 0))))
        for asked in (
                nearest(top, self.SPOT, 1), nearest(top, self.SPOT, 1, 0), nearest(top, self.SPOT, 1, 0, None),
                nearest(top, self.SPOT, 1, want=None), nearest(many=1, box=self.SPOT, top=top, want=Anything())):
            self.assertEqual(asked, (((1, 1),), (((), "open"),)))
        self.assertEqual(nearest(top, self.SPOT, 1, beat=2)[0], ((1, 1),))
        self.assertEqual(nearest(top, self.SPOT, 1, 1)[0], ((0, 1),))

    def test_just_as_far_is_not_far(self):
        pages = [make_leaf((make_thing(handle, ((place, place), (0, 0))),)) for handle, place in ((7, 3), (4, 5), (9, 6))]
        self.assertEqual(nearest(make_fork(tuple(pages)), self.SPOT, 1), (
            ((1, 4),), (((), "open"), ((0,), "open"), ((1,), "open"), ((2,), "far"))))

    def test_gaps_alike_go_by_handle(self):
        things = tuple(make_thing(k * 7 % 50, ((k % 2 * 8, k % 2 * 8), (0, 0))) for k in range(50))
        rows = tuple((16, handle) for handle in range(50))
        for top in (make_leaf(things), laid_tree(things, 4), make_fork((laid_tree(things[25:], 5), make_leaf(things[:25])))):
            for many in (1, 2, 25, 49, 50, 51):
                self.assertEqual(nearest(top, self.SPOT, many)[0], rows[:many])

    def test_a_lesser_handle_beneath_a_page_just_as_far(self):
        near = make_leaf((make_thing(8, ((5, 5), (0, 0))),))
        also = make_fork((make_leaf((make_thing(2, ((3, 3), (0, 0))), make_thing(3, ((-90, -80), (0, 0))))),))
        for pages in ((near, also), (also, near)):
            self.assertEqual(nearest(make_fork(pages), self.SPOT, 1)[0], ((1, 2),))

    def test_no_things(self):
        for top in (make_leaf(()), make_fork((make_leaf(()), make_leaf(())))):
            for many in (0, 1, 1000):
                self.assertEqual(nearest(top, self.SPOT, many), ((), (((), "shut"),)))


class Mixed(Nearest):
    """[8.2], [8.3] against going through all things one by one"""

    def test_trees_of_any_shape(self):
        row = Row(130)
        seen = set()
        for count in range(2500):
            rows, paper = self.ask(*self.mixed_question(row, count))
            seen |= {word for path, word in paper}
        self.assertEqual(seen, set(WORDS))

    def test_healthy_trees(self):
        row = Row(131)
        for room in range(4, 17):
            top = laid_tree(tuple(row.thing(k, 2, 999) for k in range(300)), room)
            for many in (0, 1, 7, 100, 299, 300, 301, 1000):
                rows, paper = self.ask(top, row.box(2, 999), many, row.number(0, 9), None)
                self.assertEqual("far" in [word for path, word in paper], many < 299)

    def test_a_thousand(self):
        row = Row(132)
        top = laid_tree(tuple(row.thing(k, 3, 99) for k in range(1000)), 9)
        for many in (1, 999, 1000):
            self.ask(top, row.box(3, 9), many, 5, Worthy(0))
            self.ask(top, row.box(3, 9), many, 5, None)

    def test_many_figures(self):
        row = Row(133)
        things = tuple(make_thing(10**18 - k, row.box(2, PLACE), row.point(2, LAST)) for k in range(50))
        for top in (laid_tree(things, 4), row.tree(things, 4)):
            for many in (1, 3, 20, 50):
                for beat in (0, LAST):
                    self.ask(top, row.box(2, PLACE), many, beat, None)
                    self.ask(top, row.box(2, PLACE), many, beat, Meets(row.box(2, PLACE)))

    def test_kinds_and_nothing_changed(self):
        row = Row(134)
        for count in range(100):
            given = self.mixed_question(row, count)
            before = repr(given[0])
            told = nearest(*given)
            self.assertTrue(told_plainly(told))
            self.assertEqual((nearest(*given), repr(given[0])), (told, before))


class Examining(Nearest):
    """[8.4]"""

    def stand(self, due, top, box, many, beat, want, rows, paper):
        self.assertIs(near_stands(top, box, many, beat, want, rows, paper), due, (box, many, beat, want, rows, paper))

    def test_right_rows(self):
        row = Row(135)
        for count in range(600):
            top, box, many, beat, want = given = self.mixed_question(row, count)
            rows, paper = nearest(*given)
            self.assertEqual(rows, right_rows(*given))
            word_of = opened_mostly(row, lambda told: right_word(told, box, many, beat, want, rows))
            for other in (paper, paper_by_the_words(top, word_of), paper_by_the_words(top, word_of), all_open(top)):
                self.stand(True, *given, rows, other)

    def test_wrong_rows(self):
        row = Row(136)
        for count in range(200):
            top, box, many, beat, want = given = self.mixed_question(row, count)
            rows, paper = nearest(*given)
            wrong = [rows + ((10**70, 5),), ((0, 0),) + rows, rows[::-1]]
            for place, (gap, handle) in enumerate(rows):
                ahead, behind = rows[:place], rows[place + 1:]
                wrong += [
                    ahead + behind, ahead + ((gap, handle),) * 2 + behind, ahead + ((gap + 1, handle),) + behind,
                    ahead + ((gap - 1, handle),) + behind, ahead + ((gap, handle + 1),) + behind]
            for other in wrong:
                if other != rows:
                    self.stand(False, *given, other, paper)
                    self.stand(False, *given, other, all_open(top))

    def test_papers_that_are_no_cut(self):
        row = Row(137)
        for count in range(120):
            given = self.mixed_question(row, count)
            rows, paper = nearest(*given)
            for papers in (paper, all_open(given[0])):
                for spoilt in spoilt_papers(papers):
                    self.stand(False, *given, rows, spoilt)

    def test_false_words(self):
        row = Row(138)
        for count in range(300):
            top, box, many, beat, want = given = self.mixed_question(row, count)
            rows, paper = nearest(*given)
            pages = dict(pages_beneath(top))
            for place, (path, word) in enumerate(paper):
                page = pages[path]
                may_be_far = page[1] is not None and is_far(page[1], box, many, beat, rows)
                for other in ("shut", "far", "whole", "apart", "open"):
                    if other != word:
                        due = other == "open" and page[0] == "leaf" or other == "far" and may_be_far
                        self.stand(due, *given, rows, paper[:place] + ((path, other),) + paper[place + 1:])

    def test_a_far_page_that_the_want_shuts(self):
        near = make_leaf((make_thing(1, ((4, 4), (0, 0)), None, 1),))
        beyond = make_leaf((make_thing(2, ((9, 9), (0, 0)), None, 2),))
        top, spot = make_fork((near, beyond)), ((3, 3), (0, 0))
        for word in ("shut", "far", "open"):
            self.stand(True, top, spot, 1, 0, Marked(1), ((1, 1),), (((), "open"), ((0,), "open"), ((1,), word)))
        for word, due in (("shut", True), ("far", False), ("open", True)):
            self.stand(due, top, spot, 2, 0, Marked(1), ((1, 1),), (((), "open"), ((0,), "open"), ((1,), word)))
        self.stand(True, top, spot, 0, 0, Marked(1), (), (((), "open"), ((0,), "far"), ((1,), "far")))
        self.stand(True, top, spot, 0, 0, Marked(4), (), (((), "far"),))

    def test_far_where_too_few_rows_are_told(self):
        top = make_fork((make_leaf((make_thing(1, ((4, 4), (0, 0))),)), make_leaf((make_thing(2, ((9, 9), (0, 0))),))))
        paper = (((), "open"), ((0,), "open"), ((1,), "far"))
        self.stand(True, top, ((3, 3), (0, 0)), 1, 0, None, ((1, 1),), paper)
        self.stand(False, top, ((3, 3), (0, 0)), 2, 0, None, ((1, 1),), paper)
        self.stand(False, top, ((3, 3), (0, 0)), 0, 0, None, ((1, 1),), paper)

    def test_a_page_just_as_far_is_not_far(self):
        near = make_leaf((make_thing(7, ((3, 3), (0, 0))),))
        for place, due in ((5, False), (6, True)):
            other = make_leaf((make_thing(9, ((place, place), (0, 0))),))
            paper = (((), "open"), ((0,), "open"), ((1,), "far"))
            self.stand(due, make_fork((near, other)), ((4, 4), (0, 0)), 1, 0, None, ((1, 7),), paper)

    def test_nothing_told_is_not_far(self):
        self.stand(False, make_leaf(()), ((4, 4), (0, 0)), 0, 0, None, (), (((), "far"),))
        self.stand(True, make_leaf(()), ((4, 4), (0, 0)), 0, 0, None, (), (((), "shut"),))
        top = make_fork((make_leaf((make_thing(7, ((4, 4), (0, 0))),)), make_leaf(())))
        self.stand(False, top, ((4, 4), (0, 0)), 1, 0, None, ((0, 7),), (((), "open"), ((0,), "open"), ((1,), "far")))

    def test_want_none_is_anything(self):
        top = make_leaf((make_thing(7, ((4, 4), (0, 0))),))
        for want in (None, Anything(), Unless(Want())):
            self.stand(True, top, ((4, 4), (0, 0)), 1, 0, want, ((0, 7),), (((), "open"),))
            self.stand(False, top, ((4, 4), (0, 0)), 1, 0, want, (), (((), "shut"),))

    def test_by_the_names_of_what_is_handed_in(self):
        top = make_leaf((make_thing(7, ((4, 4), (0, 0))),))
        self.assertIs(near_stands(
            paper=(((), "open"),), rows=((0, 7),), want=None, beat=0, many=1, box=((4, 4), (0, 0)), top=top), True)

    def test_whatever_the_paper(self):
        """The rows that a paper with mixed words leads to are taken just where its words are so; then they are right."""
        row = Row(139)
        taken = 0
        for count in range(3000):
            top, box, many, beat, want = given = self.mixed_question(row, count, 8)
            paper = paper_by_the_words(top, lambda told: ("open", "open", "shut", "far")[row.number(0, 3)])
            pages = dict(pages_beneath(top))
            found = [pages[path][2] for path, word in paper if word == "open" and pages[path][0] == "leaf"]
            rows = right_rows(make_fork(tuple(make_leaf(things) for things in found) + (make_leaf(()),)), *given[1:])
            due = True
            for path, word in paper:
                told = pages[path][1]
                if word == "shut" and not is_shut(told, beat, want):
                    due = False
                if word == "far" and (told is None or not is_far(told, box, many, beat, rows)):
                    due = False
            self.stand(due, *given, rows, paper)
            right = right_rows(*given)
            if due:
                taken += 1
                self.assertEqual(rows, right)
            elif rows != right:
                self.stand(False, *given, right, paper)
        self.assertGreater(taken, 300)


if __name__ == "__main__":
    unittest.main()
