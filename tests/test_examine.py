"""[7.4]: the examiner of answers to a want."""

import unittest
from itertools import product

from driftwood.ask import all_that
from driftwood.examine import paper_stands
from driftwood.laying import laid_tree
from driftwood.pages import make_fork, make_leaf, things_in
from driftwood.things import make_thing
from driftwood.wants import Anything, Marked, Meets, Unless, Want, Worthy
from tests.helper import (
    Row, mixed_want, pages_beneath, paper_by_the_words, spoilt_papers, suits_by_the_words, told_plainly)


def right_handles(top, want, beat):
    return tuple(sorted(thing[0] for thing in things_in(top) if suits_by_the_words(want, thing, beat)))


def opened_papers(row, top, want, beat):
    """The right paper with some pages opened without need, at last with all of them open."""
    for often in (0, 1, 2, 3):
        yield paper_by_the_words(
            top, lambda told: "open" if row.number(0, 3) < often else
            "shut" if told is None else {"none": "shut", "every": "whole"}.get(want.verdict(told, beat), "open"))
    yield tuple((path, "open") for path, page in pages_beneath(top))


def other_answers(answer):
    """Wrong ones: one more, one less, one twice, turned about."""
    yield answer + (10**18,)
    yield (0,) + answer
    for place, handle in enumerate(answer):
        yield answer[:place] + answer[place + 1:]
        yield answer[:place] + (handle, handle) + answer[place + 1:]
        yield answer[:place] + (handle + 1,) + answer[place + 1:]
        if place:
            yield answer[:place - 1] + (handle, answer[place - 1]) + answer[place + 1:]
    if len(answer) > 1:
        yield answer[::-1]


def all_papers(page, path=()):
    """Every way to give words to the rows of a cut, whether the words are so or not."""
    for word in ("shut", "whole"):
        yield ((path, word),)
    if page[0] == "leaf":
        yield ((path, "open"),)
    else:
        parts = [list(all_papers(part, path + (k,))) for k, part in enumerate(page[2])]
        for chosen in product(*parts):
            yield ((path, "open"),) + sum(chosen, ())


def led_to(top, want, beat, paper):
    """[7.2]: the handles that a paper leads to, whether its words are so or not."""
    pages, handles = dict(pages_beneath(top)), []
    for path, word in paper:
        if word == "whole":
            handles += [thing[0] for thing in things_in(pages[path])]
        if word == "open" and pages[path][0] == "leaf":
            handles += [thing[0] for thing in pages[path][2] if suits_by_the_words(want, thing, beat)]
    return tuple(sorted(handles))


def words_are_so(top, want, beat, paper):
    """[7.4]: whether each shut and each whole page is such by its told."""
    pages = dict(pages_beneath(top))
    for path, word in paper:
        told = pages[path][1]
        if word == "shut" and told is not None and want.verdict(told, beat) != "none":
            return False
        if word == "whole" and (told is None or want.verdict(told, beat) != "every"):
            return False
    return True


class Trap:
    """Whoever looks at it in any way is found out."""

    def __getattribute__(self, name):
        raise AssertionError("looked at")

    def __eq__(self, other):
        raise AssertionError("looked at")

    def __iter__(self):
        raise AssertionError("looked at")

    def __len__(self):
        raise AssertionError("looked at")

    def __getitem__(self, key):
        raise AssertionError("looked at")


def trapped(page, paper, path=()):
    """The same tree, but with traps in the place of all that an examiner has no need to look at."""
    kind, told, parts = page
    word = dict(paper).get(path)
    if word == "shut":
        return (kind, told, Trap())
    if word == "whole":
        return (kind, told, parts if kind == "leaf" else tuple(without_tolds(part) for part in parts))
    return (kind, Trap(), parts if kind == "leaf" else tuple(
        trapped(part, paper, path + (k,)) for k, part in enumerate(parts)))


def without_tolds(page):
    kind, told, parts = page
    return (kind, Trap(), parts if kind == "leaf" else tuple(without_tolds(part) for part in parts))


class Examining(unittest.TestCase):
    def stand(self, due, top, want, beat, answer, paper):
        self.assertIs(paper_stands(top, want, beat, answer, paper), due, (want.written(), beat, answer, paper))


class Taken(Examining):
    def test_right_answers_with_right_papers(self):
        row = Row(110)
        for count in range(400):
            sides = 2 + count % 2
            top = row.tree(row.small_things(row.number(0, 14), sides), row.number(0, 4))
            want, beat = mixed_want(row, sides, 2), row.number(0, 5)
            answer, paper = all_that(top, want, beat)
            self.stand(True, top, want, beat, answer, paper)
            self.stand(True, top, want, beat, right_handles(top, want, beat), paper)
            for other in opened_papers(row, top, want, beat):
                self.stand(True, top, want, beat, answer, other)

    def test_healthy_trees(self):
        row = Row(111)
        for room in range(4, 17):
            top = laid_tree(row.small_things(200, 3), room)
            for _ in range(5):
                want = mixed_want(row, 3, 2)
                answer, paper = all_that(top, want, 2)
                self.stand(True, top, want, 2, answer, paper)
                self.stand(True, top, want, 2, answer, tuple((path, "open") for path, page in pages_beneath(top)))

    def test_no_things_at_all(self):
        empty = make_leaf(())
        for top in (empty, make_fork((empty, make_fork((empty,))))):
            self.stand(True, top, Anything(), 0, (), (((), "shut"),))
            self.stand(True, top, Anything(), 0, (), tuple((path, "open") for path, page in pages_beneath(top)))
            self.stand(False, top, Anything(), 0, (), (((), "whole"),))
            self.stand(False, top, Anything(), 0, (), ())

    def test_by_the_names_of_what_is_handed_in(self):
        top = make_leaf((make_thing(3, ((0, 0), (0, 0))),))
        self.assertIs(paper_stands(paper=(((), "whole"),), answer=(3,), beat=0, want=Anything(), top=top), True)


class Refused(Examining):
    def test_wrong_answers(self):
        row = Row(112)
        for count in range(150):
            top = row.tree(row.small_things(row.number(0, 14), 2), row.number(0, 4))
            want, beat = mixed_want(row, 2, 2), row.number(0, 5)
            answer, paper = all_that(top, want, beat)
            for wrong in other_answers(answer):
                self.stand(False, top, want, beat, wrong, paper)
                self.stand(False, top, want, beat, wrong, tuple((path, "open") for path, page in pages_beneath(top)))

    def test_papers_that_are_no_cut(self):
        row = Row(113)
        for count in range(150):
            top = row.tree(row.small_things(row.number(0, 14), 2), row.number(0, 4))
            want, beat = mixed_want(row, 2, 2), row.number(0, 5)
            answer, paper = all_that(top, want, beat)
            for papers in (paper, tuple((path, "open") for path, page in pages_beneath(top))):
                for spoilt in spoilt_papers(papers):
                    self.stand(False, top, want, beat, answer, spoilt)

    def test_false_words(self):
        row = Row(114)
        for count in range(300):
            top = row.tree(row.small_things(row.number(0, 14), 2), row.number(0, 4))
            want, beat = mixed_want(row, 2, 2), row.number(0, 5)
            answer, paper = all_that(top, want, beat)
            pages = dict(pages_beneath(top))
            for place, (path, word) in enumerate(paper):
                for other in {"shut", "whole", "open"} - {word}:
                    # Opened without need, a leaf may be; a fork would need its pages.
                    due = other == "open" and pages[path][0] == "leaf"
                    self.stand(due, top, want, beat, answer, paper[:place] + ((path, other),) + paper[place + 1:])

    def test_a_shut_page_that_is_open_by_its_told_though_no_thing_suits(self):
        top = make_leaf((make_thing(1, ((0, 0), (0, 0))), make_thing(2, ((9, 9), (0, 0)))))
        want = Meets(((5, 5), (0, 0)))
        self.stand(False, top, want, 0, (), (((), "shut"),))
        self.stand(True, top, want, 0, (), (((), "open"),))

    def test_a_whole_page_that_is_open_by_its_told_though_all_things_suit(self):
        top = make_leaf((make_thing(1, ((0, 2), (0, 0))), make_thing(2, ((8, 9), (0, 0)))))
        want = Unless(Meets(((5, 5), (0, 0))))
        self.stand(False, top, want, 0, (1, 2), (((), "whole"),))
        self.stand(True, top, want, 0, (1, 2), (((), "open"),))

    def test_pages_beneath_shut_and_whole_rows(self):
        top = make_fork((make_leaf((make_thing(1, ((0, 2), (0, 0))),)), make_leaf(())))
        behind = (((0,), "whole"), ((1,), "shut"))
        self.stand(True, top, Anything(), 0, (1,), (((), "open"),) + behind)
        self.stand(False, top, Anything(), 0, (1,), (((), "whole"),) + behind)
        self.stand(False, top, Anything(), 0, (1, 1), (((), "whole"),) + behind)
        self.stand(False, top, Want(), 0, (), (((), "shut"), ((0,), "shut"), ((1,), "shut")))

    def test_rows_behind_an_open_leaf(self):
        top = make_leaf((make_thing(1, ((0, 2), (0, 0))),))
        for path in ((0,), (-1,), (1,), ()):
            for word in ("shut", "whole", "open"):
                self.stand(False, top, Anything(), 0, (1,), (((), "open"), (path, word)))

    def test_the_right_paper_of_another_question(self):
        things = tuple(make_thing(k, ((k, k), (0, 0)), (k, 0), k % 4, k) for k in range(20))
        top = laid_tree(things, 4)
        for want, other in ((Marked(1), Marked(2)), (Worthy(7), Worthy(12)), (Meets(((0, 5), (0, 5))), Meets(((9, 12), (0, 5))))):
            answer, paper = all_that(top, want)
            self.stand(False, top, other, 0, answer, paper)
        want = Meets(((0, 5), (0, 5)))
        self.stand(False, top, want, 2, *all_that(top, want, 1))


class WhateverThePaper(Examining):
    def judge(self, top, want, beat, paper):
        """Taken just where the words are so and the answer is what they lead to; and then it is the right one."""
        right, answer = right_handles(top, want, beat), led_to(top, want, beat, paper)
        due = words_are_so(top, want, beat, paper)
        self.stand(due, top, want, beat, answer, paper)
        if due:
            self.assertEqual(answer, right)
        elif answer != right:
            self.stand(False, top, want, beat, right, paper)
        return due

    def test_every_cut_with_every_words(self):
        row = Row(115)
        taken = 0
        for count in range(80):
            leaves = [make_leaf((row.small_thing(k, 2), row.small_thing(k + 9, 2))[count % 2:]) for k in (5, 2, 8)]
            top = make_fork((make_fork((leaves[0], make_leaf(()))), make_fork(tuple(leaves[1:]))))
            want, beat = mixed_want(row, 2, 2), row.number(0, 5)
            for paper in all_papers(top):
                taken += self.judge(top, want, beat, paper)
        self.assertGreater(taken, 200)

    def test_cuts_with_mixed_words(self):
        row = Row(118)
        taken = 0
        for count in range(3000):
            top = row.tree(row.small_things(row.number(0, 9), 2), 3)
            paper = paper_by_the_words(top, lambda told: ("open", "open", "shut", "whole")[row.number(0, 3)])
            taken += self.judge(top, mixed_want(row, 2, 2), row.number(0, 5), paper)
        self.assertGreater(taken, 200)

    def test_nothing_else_is_looked_at(self):
        row = Row(116)
        for count in range(200):
            top = row.tree(row.small_things(row.number(0, 14), 2), row.number(0, 4))
            want, beat = mixed_want(row, 2, 2), row.number(0, 5)
            answer, paper = all_that(top, want, beat)
            self.stand(True, trapped(top, paper), want, beat, answer, paper)

    def test_nothing_is_changed(self):
        row = Row(117)
        top = row.tree(row.small_things(14, 2), 3)
        before = repr(top)
        want = mixed_want(row, 2, 2)
        answer, paper = all_that(top, want)
        self.assertTrue(told_plainly((answer, paper)))
        kept = repr((answer, paper))
        for _ in range(2):
            self.stand(True, top, want, 0, answer, paper)
        self.assertEqual((repr(top), repr((answer, paper))), (before, kept))


if __name__ == "__main__":
    unittest.main()
