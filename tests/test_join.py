"""[9.1] to [9.4]: near pairs and meetings of two trees."""

import unittest

from driftwood.boxes import box_gap, boxes_meet
from driftwood.join import meetings_of, near_pairs
from driftwood.laying import laid_tree
from driftwood.meeting import meeting
from driftwood.pages import make_fork, make_leaf, things_in
from driftwood.swaths import frame_at
from driftwood.things import make_thing, thing_box
from tests.helper import Row, join_by_the_words, join_paper, pairs_of, told_plainly

PLACE = 10**30
LAST = 10**15


def right_pairs(one, two, far, beat):
    """[9.3] by going through all pairs one by one."""
    return tuple(sorted(
        (a[0], b[0]) for a, b in pairs_of(one, two) if box_gap(thing_box(a, beat), thing_box(b, beat)) <= far))


def pairs_word(told, other, far, beat):
    if told is None or other is None or box_gap(frame_at(told[0], beat), frame_at(other[0], beat)) > far:
        return "apart"
    return "whole" if box_gap(frame_at(told[1], beat), frame_at(other[1], beat)) <= far else "open"


def right_meetings(one, two, first, last):
    """[9.4] by going through all pairs and beats one by one."""
    rows = []
    for a, b in pairs_of(one, two):
        beats = [beat for beat in range(first, last + 1) if boxes_meet(thing_box(a, beat), thing_box(b, beat))]
        if beats:
            rows.append((beats[0], a[0], b[0]))
    return tuple(sorted(rows))


def meetings_word(told, other, first, last):
    if told is None or other is None or meeting(told[0], other[0], first, last) is None:
        return "apart"
    return "open"


def still(handle, low, high=None):
    return make_thing(handle, ((low, low if high is None else high), (0, 0)))


class Joining(unittest.TestCase):
    def pairs(self, one, two, far, beat):
        paper = join_paper(one, two, lambda told, other: pairs_word(told, other, far, beat))
        self.assertEqual(near_pairs(one, two, far, beat), (right_pairs(one, two, far, beat), paper))
        return paper

    def meetings(self, one, two, first, last):
        paper = join_paper(one, two, lambda told, other: meetings_word(told, other, first, last))
        self.assertEqual(meetings_of(one, two, first, last), (right_meetings(one, two, first, last), paper))
        return paper


class Orders(unittest.TestCase):
    """[9.1], [9.2]: the rows of the paper in their order"""

    A, B, C, D = [make_leaf((still(k, 10 * k, 10 * k + 5),)) for k in range(4)]

    def test_two_leaves(self):
        self.assertEqual(near_pairs(self.A, self.B, 24), ((), (((), (), "apart"),)))
        self.assertEqual(near_pairs(self.A, self.B, 25), (((0, 1),), (((), (), "whole"),)))
        self.assertEqual(near_pairs(self.B, self.A, 25), (((1, 0),), (((), (), "whole"),)))

    def test_two_forks(self):
        one, two = make_fork((self.A, self.C)), make_fork((self.B, self.D))
        self.assertEqual(near_pairs(one, two, 25), (((0, 1), (2, 1), (2, 3)), (
            ((), (), "open"), ((0,), (0,), "whole"), ((0,), (1,), "apart"), ((1,), (0,), "whole"), ((1,), (1,), "whole"))))

    def test_a_fork_beside_a_leaf(self):
        pair = make_leaf((still(8, 6), still(9, 26)))
        fork = make_fork((self.A, self.C))
        rows = (((0,), "open"), ((1,), "open"))
        self.assertEqual(near_pairs(fork, pair, 1), (((0, 8), (2, 9)), (((), (), "open"),) + tuple((path, (), word) for path, word in rows)))
        self.assertEqual(near_pairs(pair, fork, 1), (((8, 0), (9, 2)), (((), (), "open"),) + tuple(((), path, word) for path, word in rows)))
        self.assertEqual([row[:2] for row in meetings_of(make_fork((fork,)), fork, 0, 0)[1]], [
            ((), ()), ((0,), (0,)), ((0, 0), (0,)), ((0, 1), (0,)), ((0,), (1,)), ((0, 0), (1,)), ((0, 1), (1,))])

    def test_with_all_that_comes_behind_each_row(self):
        low = make_fork((make_leaf((still(1, 0), still(2, 9))), make_leaf((still(3, 0), still(4, 9)))))
        one = make_fork((low, make_leaf((still(5, 0), still(6, 9)))))
        two = make_leaf((still(7, 4), still(8, 5)))
        due = (((), ()), ((0,), ()), ((0, 0), ()), ((0, 1), ()), ((1,), ()))
        self.assertEqual(near_pairs(one, two, 16)[1], tuple(row + ("open",) for row in due))
        self.assertEqual(near_pairs(two, one, 16)[1], tuple((b, a, "open") for a, b in due))

    def test_nothing_behind_apart_and_whole(self):
        one = make_fork((self.A, self.B))
        self.assertEqual(near_pairs(one, make_fork((self.D,)), 3)[1], (((), (), "apart"),))
        self.assertEqual(near_pairs(one, make_fork((self.C, self.D)), 10**4), (
            ((0, 2), (0, 3), (1, 2), (1, 3)), (((), (), "whole"),)))

    def test_no_thing_with_one_of_like_handle(self):
        one = make_leaf((still(1, 0), still(2, 0)))
        other = make_leaf((still(2, 0), still(3, 0), still(1, 0)))
        self.assertEqual(near_pairs(one, one, 0), (((1, 2), (2, 1)), (((), (), "whole"),)))
        self.assertEqual(near_pairs(one, other, 0)[0], ((1, 2), (1, 3), (2, 1), (2, 3)))
        self.assertEqual(meetings_of(one, one, 3, 5)[0], ((3, 1, 2), (3, 2, 1)))
        self.assertEqual(meetings_of(one, other, 3, 5)[0], ((3, 1, 2), (3, 1, 3), (3, 2, 1), (3, 2, 3)))
        self.assertEqual(near_pairs(self.A, self.A, 0), ((), (((), (), "whole"),)))
        self.assertEqual(meetings_of(self.A, self.A, 0, 9), ((), (((), (), "open"),)))

    def test_no_things(self):
        empty = make_leaf(())
        for none in (empty, make_fork((empty, make_fork((empty,))))):
            for other in (empty, self.A, make_fork((self.A, self.B)), none):
                for one, two in ((none, other), (other, none)):
                    self.assertEqual(near_pairs(one, two, 10**62), ((), (((), (), "apart"),)))
                    self.assertEqual(meetings_of(one, two, 0, LAST), ((), (((), (), "apart"),)))

    def test_leaves_without_things_within_a_tree(self):
        one = make_fork((make_leaf(()), self.A, make_fork((make_leaf(()), self.B))))
        self.assertEqual(near_pairs(one, self.C, 25)[1], (
            ((), (), "open"), ((0,), (), "apart"), ((1,), (), "apart"), ((2,), (), "whole")))


class Near(Joining):
    """[9.3]"""

    def test_just_as_far_and_one_less(self):
        one, two = make_leaf((make_thing(1, ((0, 1), (0, 1))),)), make_leaf((make_thing(2, ((4, 5), (5, 6))),))
        self.assertEqual(near_pairs(one, two, 25)[0], ((1, 2),))
        self.assertEqual(near_pairs(one, two, 24)[0], ())
        pair = make_leaf((still(1, 0), still(2, 5), still(3, 99)))
        self.assertEqual(near_pairs(pair, pair, 25), (((1, 2), (2, 1)), (((), (), "open"),)))
        self.assertEqual(near_pairs(pair, pair, 24), ((), (((), (), "open"),)))

    def test_the_words_just_as_far_and_one_less(self):
        one, two = make_leaf((still(1, 0), still(2, 2))), make_leaf((still(3, 5), still(4, 9)))
        for far, word in ((8, "apart"), (9, "open"), (80, "open"), (81, "whole")):
            self.assertEqual(self.pairs(one, two, far, 0), (((), (), word),))

    def test_at_a_beat_and_left_out(self):
        one = make_leaf((make_thing(1, ((0, 0), (0, 0)), (3, 0)),))
        two = make_leaf((make_thing(2, ((1, 1), (0, 0)), (0, 0)),))
        for beat, far in ((0, 1), (1, 4), (2, 25)):
            self.assertEqual(near_pairs(one, two, far, beat), (((1, 2),), (((), (), "whole"),)))
            self.assertEqual(near_pairs(one, two, far - 1, beat), ((), (((), (), "apart"),)))
        self.assertEqual(near_pairs(one, two, 1), (((1, 2),), (((), (), "whole"),)))
        self.assertEqual(near_pairs(far=4, beat=1, two=two, one=one)[0], ((1, 2),))

    def test_turned_hearts(self):
        one = make_leaf((still(1, 0, 9), still(2, 5, 20)))
        two = make_leaf((still(3, 0, 4), still(4, 8, 30)))
        for far in (0, 1, 2, 15, 16, 17):
            self.pairs(one, two, far, 0)
        self.assertEqual(near_pairs(one, two, 1)[0], ((1, 3), (1, 4), (2, 3), (2, 4)))

    def test_trees_of_any_shape(self):
        row = Row(140)
        seen = set()
        for count in range(900):
            one, two = row.two_trees(9, 2 + count % 2, 3)
            seen |= {word for path, other, word in self.pairs(one, two, row.number(0, 3) * row.number(0, 99), row.number(0, 5))}
        self.assertEqual(seen, {"apart", "whole", "open"})

    def test_healthy_trees(self):
        row = Row(141)
        for room in (4, 5, 8, 16):
            one, two = [laid_tree(tuple(row.thing(k + j, 3, 200) for k in range(70)), room) for j in (0, 35)]
            for far in (0, 100, 10**4, 10**6):
                self.pairs(one, two, far, 3)
                self.pairs(one, one, far, 1)

    def test_many_figures(self):
        row = Row(142)
        things = tuple(make_thing(10**18 - k, row.box(2, PLACE), row.point(2, LAST)) for k in range(30))
        top = laid_tree(things, 4)
        for beat in (0, LAST):
            for far in (0, 10**58, 10**61, 10**62):
                self.pairs(top, top, far, beat)


class Meetings(Joining):
    """[9.4]"""

    def test_the_first_beat(self):
        one = make_leaf((make_thing(1, ((0, 1), (0, 0)), (2, 0)),))
        two = make_leaf((make_thing(2, ((10, 11), (0, 0)), (-1, 0)),))
        for first, last, due in ((0, 9, ((3, 1, 2),)), (3, 3, ((3, 1, 2),)), (0, 2, ()), (4, 9, ()), (0, LAST, ((3, 1, 2),)), (3, 2, ())):
            self.assertEqual(meetings_of(one, two, first, last)[0], due)
        slow = make_leaf((make_thing(2, ((10, 19), (0, 0)), (1, 0)),))
        self.assertEqual(meetings_of(one, slow, 0, 99)[0], ((9, 1, 2),))
        self.assertEqual(meetings_of(one, slow, 12, 99)[0], ((12, 1, 2),))

    def test_through_one_another_between_two_beats(self):
        """[0.6]"""
        one = make_leaf((make_thing(1, ((0, 0), (0, 0)), (1, 0)),))
        two = make_leaf((make_thing(2, ((5, 5), (0, 0)), (-1, 0)), make_thing(3, ((6, 6), (0, 0)), (-1, 0))))
        self.assertEqual(meetings_of(one, two, 0, 99), (((3, 1, 3),), (((), (), "open"),)))
        alone = make_leaf((make_thing(2, ((5, 5), (0, 0)), (-1, 0)),))
        self.assertEqual(meetings_of(one, alone, 0, 99), ((), (((), (), "apart"),)))

    def test_first_greater_than_last(self):
        top = make_leaf((still(1, 0), still(2, 0)))
        for first, last in ((1, 0), (LAST, 0), (5, 4)):
            self.assertEqual(meetings_of(top, top, first, last), ((), (((), (), "apart"),)))
            self.assertEqual(meetings_of(make_fork((top,)), top, first, last), ((), (((), (), "apart"),)))

    def test_rising_by_beat_first(self):
        one = make_leaf((make_thing(1, ((0, 0), (0, 0))),))
        two = make_leaf(tuple(make_thing(k, ((20 - 2 * k, 20 - 2 * k), (0, 0)), (-1, 0)) for k in (4, 9, 2, 6)))
        self.assertEqual(meetings_of(one, two, 0, 99)[0], ((2, 1, 9), (8, 1, 6), (12, 1, 4), (16, 1, 2)))

    def test_by_the_names_of_what_is_handed_in(self):
        top = make_leaf((still(1, 0), still(2, 0)))
        self.assertEqual(meetings_of(last=5, first=3, two=top, one=top)[0], ((3, 1, 2), (3, 2, 1)))

    def test_trees_of_any_shape(self):
        row = Row(143)
        seen = set()
        for count in range(600):
            one, two = row.two_trees(9, 2 + count % 2, 3)
            paper = self.meetings(one, two, row.number(0, 6), row.number(0, 9))
            seen |= {word for path, other, word in paper}
        self.assertEqual(seen, {"apart", "open"})

    def test_healthy_trees(self):
        row = Row(144)
        for room in (4, 7, 16):
            one, two = [laid_tree(tuple(row.thing(k + j, 2, 200) for k in range(50)), room) for j in (0, 25)]
            self.meetings(one, two, 0, 9)
            self.meetings(one, one, 5, 12)

    def test_far_beats(self):
        one = make_leaf((make_thing(1, ((-PLACE, -PLACE), (0, 0)), (LAST, 0)),))
        two = make_leaf((make_thing(2, ((0, 0), (0, 0))),))
        self.assertEqual(meetings_of(one, two, 0, LAST)[0], ((LAST, 1, 2),))
        self.assertEqual(meetings_of(one, two, 0, LAST - 1)[0], ())


class Both(unittest.TestCase):
    def test_each_pair_beneath_just_one_row(self):
        """What apart, whole and open rows of two leaves lead to is each pair once."""
        row = Row(145)
        for count in range(200):
            one, two = row.two_trees(9, 2, 3)
            found = []
            for path, other, word, page, beside in join_by_the_words(one, two, lambda told, other: pairs_word(told, other, 30, 1)):
                if word != "open" or (page[0], beside[0]) == ("leaf", "leaf"):
                    found += [(a, b) for a in things_in(page) for b in things_in(beside)]
            self.assertEqual(sorted(found), sorted((a, b) for a in things_in(one) for b in things_in(two)))

    def test_kinds_and_nothing_changed(self):
        row = Row(146)
        for count in range(60):
            one, two = row.two_trees(9, 2, 3)
            before = repr((one, two))
            told = near_pairs(one, two, 40, 2), meetings_of(one, two, 0, 5)
            self.assertTrue(told_plainly(told))
            self.assertEqual((near_pairs(one, two, 40, 2), meetings_of(one, two, 0, 5)), told)
            self.assertEqual(repr((one, two)), before)


if __name__ == "__main__":
    unittest.main()
