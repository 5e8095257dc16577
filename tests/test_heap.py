"""[8.1]: the heap."""

import unittest
from itertools import permutations, product

from driftwood.heap import Heap
from tests.helper import Row

FAR = 10**60


class Load:
    """A load that is found out where it is looked at."""

    def refuse(self, *given):
        raise AssertionError("looked at")

    __eq__ = __lt__ = __gt__ = __le__ = __ge__ = __ne__ = __bool__ = __len__ = __hash__ = refuse


def heap_of(rows):
    heap = Heap()
    for rank, load in rows:
        heap.add(rank, load)
    return heap


def drawn_out(heap):
    rows = []
    while heap.size() > 0:
        rows.append(heap.draw())
    return rows


def first_place_that_differs(one, two):
    """[8.1]: whether one goes ahead of two, by the words."""
    for a, b in zip(one, two):
        if a != b:
            return a < b
    return len(one) < len(two)


class Drawing(unittest.TestCase):
    def test_empty(self):
        heap = Heap()
        self.assertEqual((heap.draw(), heap.first_rank(), heap.size()), (None, None, 0))
        self.assertIsNone(heap.add((3,), "a"))
        self.assertEqual(heap.draw(), ((3,), "a"))
        self.assertEqual((heap.draw(), heap.draw(), heap.first_rank(), heap.size()), (None, None, None, 0))
        heap.add((4,), "b")
        self.assertEqual((heap.size(), heap.first_rank(), heap.draw()), (1, (4,), ((4,), "b")))

    def test_by_rank(self):
        rows = [((3,), "c"), ((1,), "a"), ((2,), "b"), ((-1,), "z")]
        for mixed in permutations(rows):
            heap = heap_of(mixed)
            self.assertEqual((heap.size(), heap.first_rank()), (4, (-1,)))
            self.assertEqual(drawn_out(heap), [((-1,), "z"), ((1,), "a"), ((2,), "b"), ((3,), "c")])

    def test_the_first_rank_is_not_drawn(self):
        heap = heap_of([((2, 0), "b"), ((1, 9), "a")])
        self.assertEqual([heap.first_rank(), heap.first_rank(), heap.size()], [(1, 9), (1, 9), 2])

    def test_one_that_is_anothers_beginning(self):
        rows = [((1, 0, 0), 1), ((1,), 2), ((1, -5), 3), ((1, 0), 4), ((), 5), ((0, 9, 9), 6)]
        for mixed in permutations(rows):
            self.assertEqual([load for rank, load in drawn_out(heap_of(mixed))], [5, 6, 2, 3, 4, 1])

    def test_like_ranks_by_the_order_in_which_they_were_added(self):
        for many in range(1, 40):
            heap = heap_of([((7, 7), k) for k in range(many)])
            self.assertEqual([load for rank, load in drawn_out(heap)], list(range(many)))

    def test_like_ranks_with_drawings_between(self):
        heap = heap_of([((1,), "a"), ((1,), "b")])
        self.assertEqual(heap.draw(), ((1,), "a"))
        heap.add((1,), "c")
        heap.add((0,), "d")
        self.assertEqual([load for rank, load in drawn_out(heap)], ["d", "b", "c"])
        heap.add((1,), "e")
        heap.add((1,), "f")
        self.assertEqual([load for rank, load in drawn_out(heap)], ["e", "f"])

    def test_great_numbers(self):
        rows = [((FAR,), 6), ((-FAR,), 1), ((FAR - 1, FAR), 5), ((FAR - 1, -FAR), 4), ((0, 0, -FAR), 2), ((0, 0, FAR), 3)]
        for mixed in permutations(rows):
            self.assertEqual([load for rank, load in drawn_out(heap_of(mixed))], [1, 2, 3, 4, 5, 6])

    def test_all_small_ranks(self):
        ranks = [rank for length in (1, 2, 3) for rank in product((-1, 0, 1), repeat=length)]
        for one, two in product(ranks, repeat=2):
            heap = heap_of([(one, "one"), (two, "two")])
            due = "two" if first_place_that_differs(two, one) else "one"
            self.assertEqual(heap.first_rank(), two if due == "two" else one)
            self.assertEqual(heap.draw()[1], due)

    def test_long_rows_of_adding_and_drawing(self):
        row = Row(120)
        for reach in (2, 50, FAR):
            heap, here = Heap(), []
            for count in range(1500):
                if row.number(0, 2) > 0 and count < 1000:
                    rank = row.point(row.number(1, 3), reach)
                    heap.add(rank, count)
                    here.append((rank, count))
                else:
                    due = min(here, default=None)
                    self.assertEqual(heap.first_rank(), due and due[0])
                    self.assertEqual(heap.draw(), due)
                    here = [one for one in here if one != due]
                self.assertEqual(heap.size(), len(here))


class Loads(unittest.TestCase):
    def test_told_as_handed_in_and_not_looked_at(self):
        loads = [Load() for _ in range(30)]
        heap = Heap()
        for place, load in enumerate(loads):
            heap.add((place % 3,), load)
        due = [load for k in range(3) for load in loads[k::3]]
        for (rank, load), one in zip(drawn_out(heap), due):
            self.assertIs(load, one)

    def test_none_and_alike(self):
        heap = heap_of([((2,), None), ((1,), None), ((1,), ())])
        self.assertEqual(drawn_out(heap), [((1,), None), ((1,), ()), ((2,), None)])

    def test_a_pair(self):
        drawn = heap_of([((2, 3), "x")]).draw()
        self.assertEqual((type(drawn), type(drawn[0])), (tuple, tuple))

    def test_two_heaps_side_by_side(self):
        one, two = Heap(), Heap()
        one.add((5,), "a")
        self.assertEqual((two.size(), two.draw(), two.first_rank()), (0, None, None))
        two.add((1,), "b")
        two.add((5,), "c")
        one.add((3,), "d")
        self.assertEqual((one.size(), two.size(), one.first_rank(), two.first_rank()), (2, 2, (3,), (1,)))
        self.assertEqual([one.draw(), two.draw(), one.draw(), two.draw()], [
            ((3,), "d"), ((1,), "b"), ((5,), "a"), ((5,), "c")])

    def test_by_the_names_of_what_is_handed_in(self):
        heap = Heap()
        heap.add(load="x", rank=(1,))
        self.assertEqual(heap.draw(), ((1,), "x"))


if __name__ == "__main__":
    unittest.main()
