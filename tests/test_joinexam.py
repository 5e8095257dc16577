"""[9.6]: the examiners of joins."""

import unittest

from driftwood.closest import closest_pair
from driftwood.join import meetings_of, near_pairs
from driftwood.joinexam import closest_stands, meetings_stand, pairs_stand
from driftwood.laying import laid_tree
from driftwood.pages import make_fork, make_leaf, things_in
from driftwood.things import make_thing
from tests.helper import Row, join_by_the_words, join_paper, opened_mostly, spoilt_papers
from tests.test_closest import right_row, right_word
from tests.test_join import meetings_word, pairs_word, right_meetings, right_pairs

WORDS = ("open", "apart", "whole", "far")


def all_open(one, two):
    return join_paper(one, two, lambda told, other: "open")


def leaf(*pairs):
    return make_leaf(tuple(make_thing(handle, ((low, low), (0, 0))) for handle, low in pairs))


class Pairs:
    """How the near pairs are asked, by the words of [9.3]."""

    asked, stands, right = staticmethod(near_pairs), staticmethod(pairs_stand), staticmethod(right_pairs)

    @staticmethod
    def given(row):
        return row.number(0, 3) * row.number(0, 99), row.number(0, 5)

    @staticmethod
    def word_is_so(word, told, other, given, answer):
        due = pairs_word(told, other, *given)
        return word == due or word == "open"

    @staticmethod
    def led_to(rows, given):
        found = []
        for path, other, word, page, beside in rows:
            if word == "whole":
                found += [(a[0], b[0]) for a in things_in(page) for b in things_in(beside) if a[0] != b[0]]
            if word == "open" and page[0] == beside[0] == "leaf":
                found += right_pairs(page, beside, *given)
        return tuple(sorted(found))


class Meetings:
    """How the meetings are asked, by the words of [9.4]."""

    asked, stands, right = staticmethod(meetings_of), staticmethod(meetings_stand), staticmethod(right_meetings)

    @staticmethod
    def given(row):
        return row.number(0, 6), row.number(0, 9)

    @staticmethod
    def word_is_so(word, told, other, given, answer):
        return word == meetings_word(told, other, *given) or word == "open"

    @staticmethod
    def led_to(rows, given):
        found = [right_meetings(page, beside, *given) for path, other, word, page, beside in rows
                 if word == "open" and page[0] == beside[0] == "leaf"]
        return tuple(sorted(sum(found, ())))


class Closest:
    """How the closest pair is asked, by the words of [9.5]."""

    asked, stands, right = staticmethod(closest_pair), staticmethod(closest_stands), staticmethod(right_row)

    @staticmethod
    def given(row):
        return (row.number(0, 5),)

    @staticmethod
    def word_is_so(word, told, other, given, answer):
        return word == right_word(told, other, *given, answer) or word == "open"

    @staticmethod
    def led_to(rows, given):
        found = [right_row(page, beside, *given) for path, other, word, page, beside in rows
                 if word == "open" and page[0] == beside[0] == "leaf"]
        return min([row for row in found if row is not None], default=None)


def other_answers(answer):
    """Wrong ones: one more, one less, one twice, turned about, another number."""
    if answer is None:
        return [(0, 1, 2), (10**63, 0, 10**18)]
    if answer and isinstance(answer[0], int):
        return [None, (answer[0], answer[2], answer[1])] + [
            answer[:k] + (answer[k] + step,) + answer[k + 1:] for k in range(3) for step in (-1, 1)]
    wrong = [answer + ((10**18,) * 3,), answer + ((10**18, 1),), ((0, 0),) + answer, answer[::-1]]
    for place, row in enumerate(answer):
        ahead, behind = answer[:place], answer[place + 1:]
        wrong += [ahead + behind, ahead + (row, row) + behind, ahead + (row[::-1],) + behind]
        wrong += [ahead + (row[:k] + (row[k] + 1,) + row[k + 1:],) + behind for k in range(len(row))]
    return wrong


class Examining(unittest.TestCase):
    KINDS = (Pairs, Meetings, Closest)

    def questions(self, seed, many, most=8):
        row = Row(seed)
        for count in range(many):
            one, two = row.two_trees(most, 2 + count % 2, 3)
            for kind in self.KINDS:
                yield kind, one, two, kind.given(row), row

    def stand(self, due, kind, one, two, given, answer, paper):
        self.assertIs(kind.stands(one, two, *given, answer, paper), due, (kind, given, answer, paper))

    def test_right_answers(self):
        for kind, one, two, given, row in self.questions(160, 300):
            answer, paper = kind.asked(one, two, *given)
            self.assertEqual(answer, kind.right(one, two, *given))
            self.stand(True, kind, one, two, given, answer, paper)
            words = {
                Pairs: lambda told, other: pairs_word(told, other, *given),
                Meetings: lambda told, other: meetings_word(told, other, *given),
                Closest: lambda told, other: right_word(told, other, *given, answer)}
            for _ in range(2):
                self.stand(True, kind, one, two, given, answer, join_paper(one, two, opened_mostly(row, words[kind])))
            self.stand(True, kind, one, two, given, answer, all_open(one, two))

    def test_healthy_trees(self):
        row = Row(161)
        for room in (4, 7, 16):
            one, two = [laid_tree(tuple(row.thing(k + j, 2, 300) for k in range(60)), room) for j in (0, 30)]
            for kind, given in ((Pairs, (2000, 3)), (Meetings, (0, 9)), (Closest, (2,))):
                for other in (one, two):
                    answer, paper = kind.asked(one, other, *given)
                    self.stand(True, kind, one, other, given, answer, paper)

    def test_wrong_answers(self):
        for kind, one, two, given, row in self.questions(162, 100):
            answer, paper = kind.asked(one, two, *given)
            for wrong in other_answers(answer):
                if wrong != answer:
                    self.stand(False, kind, one, two, given, wrong, paper)
                    self.stand(False, kind, one, two, given, wrong, all_open(one, two))

    def test_papers_that_are_no_cut(self):
        for kind, one, two, given, row in self.questions(163, 40, 6):
            answer, paper = kind.asked(one, two, *given)
            for papers in (paper, all_open(one, two)):
                for spoilt in spoilt_papers(papers if len(papers) < 20 else ()):
                    self.stand(False, kind, one, two, given, answer, spoilt)

    def test_paths_the_other_way_round(self):
        one, two = make_fork((leaf((1, 0)), leaf((2, 9)))), leaf((3, 4))
        for kind, given in ((Pairs, (25, 0)), (Meetings, (0, 5)), (Closest, (0,))):
            answer, paper = kind.asked(one, two, *given)
            paper = all_open(one, two)
            self.stand(True, kind, one, two, given, answer, paper)
            self.stand(False, kind, one, two, given, answer, tuple((b, a, word) for a, b, word in paper))
            self.stand(False, kind, two, one, given, answer, paper)

    def test_false_words(self):
        for kind, one, two, given, row in self.questions(164, 150):
            answer, paper = kind.asked(one, two, *given)
            rows = list(join_by_the_words(one, two, lambda told, other: "open"))
            pages = {(path, other): (page, beside) for path, other, word, page, beside in rows}
            for place, (path, other, word) in enumerate(paper):
                page, beside = pages[path, other]
                for false in set(WORDS) - {word}:
                    due = false == "open" and (page[0], beside[0]) == ("leaf", "leaf")
                    spoilt = paper[:place] + ((path, other, false),) + paper[place + 1:]
                    self.stand(due, kind, one, two, given, answer, spoilt)

    def test_words_of_another_papers_kind(self):
        one, two = leaf((1, 0)), leaf((2, 3))
        self.assertIs(pairs_stand(one, two, 9, 0, ((1, 2),), (((), (), "whole"),)), True)
        self.assertIs(pairs_stand(one, two, 8, 0, (), (((), (), "apart"),)), True)
        for word in ("far", "shut"):
            self.assertIs(pairs_stand(one, two, 8, 0, (), (((), (), word),)), False)
        for word, due in (("apart", True), ("whole", False), ("far", False), ("shut", False)):
            self.assertIs(meetings_stand(one, two, 0, 9, (), (((), (), word),)), due)
        for word in ("apart", "whole", "far", "shut"):
            self.assertIs(closest_stands(one, two, 0, (9, 1, 2), (((), (), word),)), False)
            self.assertIs(closest_stands(make_leaf(()), two, 0, None, (((), (), word),)), word == "apart")

    def test_far_by_the_pair_that_is_handed_in(self):
        one, two = leaf((1, 0)), make_fork((leaf((2, 3)), leaf((3, 4)), leaf((4, 3))))
        paper = (((), (), "open"), ((), (0,), "open"), ((), (1,), "far"), ((), (2,), "open"))
        self.assertIs(closest_stands(one, two, 0, (9, 1, 2), paper), True)
        self.assertIs(closest_stands(one, two, 0, (16, 1, 3), paper), False)
        self.assertIs(closest_stands(one, two, 0, None, paper), False)
        for place in (0, 2):
            far = paper[:place + 1] + (((), (place,), "far"),) + paper[place + 2:]
            self.assertIs(closest_stands(one, two, 0, (9, 1, 2), far), False)
        self.assertIs(closest_stands(one, two, 0, None, (((), (), "far"),)), False)
        self.assertIs(closest_stands(one, two, 0, (-1, 1, 2), (((), (), "far"),)), False)

    def test_nothing_told_is_apart_alone(self):
        one, two = leaf((1, 0)), make_leaf(())
        for kind, given, none in ((Pairs, (99, 0), ()), (Meetings, (0, 9), ()), (Closest, (0,), None)):
            for first, second in ((one, two), (two, one), (two, two)):
                for word, due in (("apart", True), ("open", True), ("whole", False), ("far", False)):
                    self.stand(due, kind, first, second, given, none, (((), (), word),))

    def test_by_the_names_of_what_is_handed_in(self):
        one, two, paper = leaf((1, 0)), leaf((2, 0)), (((), (), "open"),)
        self.assertIs(pairs_stand(paper=paper, answer=((1, 2),), beat=0, far=0, two=two, one=one), True)
        self.assertIs(meetings_stand(paper=paper, answer=((3, 1, 2),), last=9, first=3, two=two, one=one), True)
        self.assertIs(closest_stands(paper=paper, answer=(0, 1, 2), beat=0, two=two, one=one), True)

    def test_whatever_the_paper(self):
        """What a paper with mixed words leads to is taken just where its words are so; and then it is right."""
        taken = {kind: 0 for kind in self.KINDS}
        for kind, one, two, given, row in self.questions(165, 900, 6):
            words = ("open", "open", "apart", {Pairs: "whole", Meetings: "open", Closest: "far"}[kind])
            rows = list(join_by_the_words(one, two, lambda told, other: words[row.number(0, 3)]))
            paper = tuple(one_row[:3] for one_row in rows)
            answer, right = kind.led_to(rows, given), kind.right(one, two, *given)
            due = all(kind.word_is_so(word, page[1], beside[1], given, answer) for path, other, word, page, beside in rows)
            self.stand(due, kind, one, two, given, answer, paper)
            if due:
                taken[kind] += 1
                self.assertEqual(answer, right)
            elif answer != right:
                self.stand(False, kind, one, two, given, right, paper)
        for kind in self.KINDS:
            self.assertGreater(taken[kind], 100, kind)

    def test_nothing_is_changed(self):
        for kind, one, two, given, row in self.questions(166, 30):
            answer, paper = kind.asked(one, two, *given)
            before = repr((one, two, answer, paper))
            for _ in range(2):
                self.stand(True, kind, one, two, given, answer, paper)
            self.assertEqual(repr((one, two, answer, paper)), before)


if __name__ == "__main__":
    unittest.main()
