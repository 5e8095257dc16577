"""[9.1], [9.2], [9.5]: the closest pair of two trees."""

import unittest

from driftwood.boxes import box_gap
from driftwood.closest import closest_pair
from driftwood.laying import laid_tree
from driftwood.pages import make_fork, make_leaf
from driftwood.swaths import frame_at
from driftwood.things import make_thing, thing_box
from tests.helper import Row, join_paper, pairs_of, told_plainly

PLACE = 10**30
LAST = 10**15


def right_row(one, two, beat):
    """[9.5] by going through all pairs one by one."""
    return min(
        [(box_gap(thing_box(a, beat), thing_box(b, beat)), a[0], b[0]) for a, b in pairs_of(one, two)], default=None)


def right_word(told, other, beat, row):
    if told is None or other is None:
        return "apart"
    if row is not None and box_gap(frame_at(told[0], beat), frame_at(other[0], beat)) > row[0]:
        return "far"
    return "open"


def leaf(*pairs):
    return make_leaf(tuple(make_thing(handle, ((low, low), (0, 0))) for handle, low in pairs))


class Closest(unittest.TestCase):
    def ask(self, one, two, beat):
        row = right_row(one, two, beat)
        paper = join_paper(one, two, lambda told, other: right_word(told, other, beat, row))
        self.assertEqual(closest_pair(one, two, beat), (row, paper))
        return row, paper

    def test_two_leaves(self):
        self.assertEqual(closest_pair(leaf((1, 0), (2, 9)), leaf((3, 4), (4, 12))), ((9, 2, 4), (((), (), "open"),)))
        self.assertEqual(closest_pair(leaf((3, 4), (4, 12)), leaf((1, 0), (2, 9))), ((9, 4, 2), (((), (), "open"),)))

    def test_far_pages(self):
        one = make_fork((leaf((1, 0)), leaf((2, 50))))
        two = make_fork((leaf((3, 52)), leaf((4, 90)), make_leaf(())))
        self.assertEqual(closest_pair(one, two), ((4, 2, 3), (
            ((), (), "open"), ((0,), (0,), "far"), ((0,), (1,), "far"), ((0,), (2,), "apart"),
            ((1,), (0,), "open"), ((1,), (1,), "far"), ((1,), (2,), "apart"))))

    def test_just_as_far_is_not_far(self):
        one = leaf((1, 0))
        for place, word in ((3, "open"), (4, "far")):
            two = make_fork((leaf((5, 3)), leaf((6, place))))
            self.assertEqual(closest_pair(one, two), ((9, 1, 5), (((), (), "open"), ((), (0,), "open"), ((), (1,), word))))

    def test_gaps_alike_go_by_handles(self):
        one = make_fork((leaf((7, 0)), leaf((3, 20)), leaf((5, 40))))
        two = make_fork((leaf((6, 2)), leaf((9, 22), (8, 18)), leaf((1, 38))))
        self.assertEqual(closest_pair(one, two)[0], (4, 3, 8))
        self.assertEqual(closest_pair(two, one)[0], (4, 1, 5))

    def test_a_tree_with_itself(self):
        top = make_fork((leaf((4, 0), (3, 30)), leaf((2, 33), (1, 99))))
        row, paper = self.ask(top, top, 0)
        self.assertEqual(row, (9, 2, 3))
        self.assertEqual(closest_pair(leaf((4, 0), (3, 0)), leaf((4, 0), (3, 0)))[0], (0, 3, 4))

    def test_no_pair(self):
        one = leaf((1, 0))
        self.assertEqual(closest_pair(one, one), (None, (((), (), "open"),)))
        self.assertEqual(closest_pair(one, leaf((1, 99))), (None, (((), (), "open"),)))
        self.assertEqual(closest_pair(make_fork((one, make_leaf(()))), one), (None, (
            ((), (), "open"), ((0,), (), "open"), ((1,), (), "apart"))))

    def test_no_things(self):
        empty = make_leaf(())
        for none in (empty, make_fork((empty, make_fork((empty,))))):
            for other in (empty, leaf((1, 0)), make_fork((leaf((1, 0)), leaf((2, 5)))), none):
                self.assertEqual(closest_pair(none, other), (None, (((), (), "apart"),)))
                self.assertEqual(closest_pair(other, none), (None, (((), (), "apart"),)))

    def test_at_a_beat_and_left_out(self):
        one = make_leaf((make_thing(1, ((0, 0), (0, 0)), (3, 0)),))
        two = make_leaf((make_thing(2, ((1, 1), (0, 0))),))
        self.assertEqual([closest_pair(one, two, beat)[0][0] for beat in (0, 1, 2)], [1, 4, 25])
        self.assertEqual(closest_pair(one, two), closest_pair(one, two, 0))
        self.assertEqual(closest_pair(beat=2, two=two, one=one)[0], (25, 1, 2))

    def test_trees_of_any_shape(self):
        row = Row(150)
        seen = set()
        for count in range(1000):
            one, two = row.two_trees(9, 2 + count % 2, 3)
            least, paper = self.ask(one, two, row.number(0, 5))
            seen |= {word for path, other, word in paper}
        self.assertEqual(seen, {"apart", "far", "open"})

    def test_things_wide_apart(self):
        """So that the least gap is seldom nought."""
        row = Row(151)
        for count in range(300):
            things = tuple(row.thing(handle, 2, 10**4) for handle in range(16))
            one = row.tree(things[:row.number(0, 16)], 4)
            self.ask(one, row.tree(things[row.number(0, 16):], 4), row.number(0, 5))
            self.ask(one, one, row.number(0, 5))

    def test_all_gaps_alike(self):
        row = Row(152)
        for count in range(100):
            things = [make_thing(handle, ((3 * (handle % 2), 3 * (handle % 2)), (0, 0))) for handle in range(30)]
            mixed = row.mixed(things)
            one = row.tree(tuple(thing for thing in mixed if thing[0] % 2), 3)
            two = row.tree(tuple(thing for thing in mixed if not thing[0] % 2), 3)
            self.assertEqual(self.ask(one, two, 0)[0], (9, 1, 0))

    def test_healthy_trees(self):
        row = Row(153)
        for room in (4, 5, 9, 16):
            one, two = [laid_tree(tuple(row.thing(k + j, 3, 10**4) for k in range(80)), room) for j in (0, 40)]
            self.ask(one, two, 3)
            self.ask(one, one, 7)

    def test_many_figures(self):
        row = Row(154)
        for beat in (0, LAST):
            top = laid_tree(tuple(make_thing(10**18 - k, row.box(2, PLACE), row.point(2, LAST)) for k in range(30)), 4)
            self.ask(top, top, beat)
        one, two = leaf((1, -PLACE)), leaf((2, PLACE))
        self.assertEqual(closest_pair(one, two)[0], (4 * PLACE**2, 1, 2))

    def test_kinds_and_nothing_changed(self):
        row = Row(155)
        for count in range(60):
            one, two = row.two_trees(9, 2, 3)
            before = repr((one, two))
            told = closest_pair(one, two, 2)
            self.assertTrue(told_plainly(told))
            self.assertEqual((closest_pair(one, two, 2), repr((one, two))), (told, before))


if __name__ == "__main__":
    unittest.main()
