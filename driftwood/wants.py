"""Wants: what is asked of a thing at a beat, judged of one thing or of all the things that a told speaks of."""

from driftwood.boxes import box_gap, box_inside, boxes_meet
from driftwood.figures import box_written
from driftwood.meeting import meeting
from driftwood.swaths import frame_at, still_swath
from driftwood.things import (
    thing_box, thing_marks, thing_swath, thing_worth, told_cover, told_every, told_heart, told_least, told_most,
    told_some)


def verdict_from(all_suit, none_suits):
    if all_suit:
        return "every"
    if none_suits:
        return "none"
    return "open"


def cover_at(told, beat):
    return frame_at(told_cover(told), beat)


def heart_at(told, beat):
    return frame_at(told_heart(told), beat)


def has_each(marks, asked):
    return (marks & asked) == asked


def has_one(marks, asked):
    return (marks & asked) != 0


def crosses_box(frame, box, first, last):
    return meeting(frame, still_swath(box), first, last) is not None


# For places where an `or` would be torn apart by what stands around it.
def written_above_or(want):
    text = want.written()
    return f"( {text} )" if isinstance(want, Either) else text


# For places where an `and` would be torn apart too.
def written_above_and(want):
    text = want.written()
    return f"( {text} )" if isinstance(want, Either) or isinstance(want, Both) else text


class Want:
    def suits(self, thing, beat):
        return False

    def verdict(self, told, beat):
        return "none"

    def written(self):
        return ""


class Anything(Want):
    def suits(self, thing, beat):
        return True

    def verdict(self, told, beat):
        return "every"

    def written(self):
        return "anything"


class Meets(Want):
    def __init__(self, box):
        self.box = box

    def suits(self, thing, beat):
        return boxes_meet(thing_box(thing, beat), self.box)

    def verdict(self, told, beat):
        return verdict_from(boxes_meet(heart_at(told, beat), self.box), not boxes_meet(cover_at(told, beat), self.box))

    def written(self):
        return "meets " + box_written(self.box)


class Inside(Want):
    def __init__(self, box):
        self.box = box

    def suits(self, thing, beat):
        return box_inside(thing_box(thing, beat), self.box)

    def verdict(self, told, beat):
        return verdict_from(box_inside(cover_at(told, beat), self.box), not box_inside(heart_at(told, beat), self.box))

    def written(self):
        return "inside " + box_written(self.box)


class Holds(Want):
    def __init__(self, box):
        self.box = box

    def suits(self, thing, beat):
        return box_inside(self.box, thing_box(thing, beat))

    def verdict(self, told, beat):
        return verdict_from(box_inside(self.box, heart_at(told, beat)), not box_inside(self.box, cover_at(told, beat)))

    def written(self):
        return "holds " + box_written(self.box)


class Near(Want):
    def __init__(self, box, far):
        self.box = box
        self.far = far

    def suits(self, thing, beat):
        return box_gap(thing_box(thing, beat), self.box) <= self.far

    def verdict(self, told, beat):
        farthest = box_gap(heart_at(told, beat), self.box)
        nearest = box_gap(cover_at(told, beat), self.box)
        return verdict_from(farthest <= self.far, nearest > self.far)

    def written(self):
        return "near " + box_written(self.box) + " " + str(self.far)


class Marked(Want):
    def __init__(self, marks):
        self.marks = marks

    def suits(self, thing, beat):
        return has_each(thing_marks(thing), self.marks)

    def verdict(self, told, beat):
        return verdict_from(has_each(told_every(told), self.marks), not has_each(told_some(told), self.marks))

    def written(self):
        return "marked " + str(self.marks)


class Touched(Want):
    def __init__(self, marks):
        self.marks = marks

    def suits(self, thing, beat):
        return has_one(thing_marks(thing), self.marks)

    def verdict(self, told, beat):
        return verdict_from(has_one(told_every(told), self.marks), not has_one(told_some(told), self.marks))

    def written(self):
        return "touched " + str(self.marks)


class Crosses(Want):
    def __init__(self, box, first, last):
        self.box = box
        self.first = first
        self.last = last

    def suits(self, thing, beat):
        return crosses_box(thing_swath(thing), self.box, self.first, self.last)

    def verdict(self, told, beat):
        heart_does = crosses_box(told_heart(told), self.box, self.first, self.last)
        cover_does = crosses_box(told_cover(told), self.box, self.first, self.last)
        return verdict_from(heart_does, not cover_does)

    def written(self):
        return "crosses " + box_written(self.box) + " " + str(self.first) + " " + str(self.last)


class Worthy(Want):
    def __init__(self, least):
        self.least = least

    def suits(self, thing, beat):
        return thing_worth(thing) >= self.least

    def verdict(self, told, beat):
        return verdict_from(told_least(told) >= self.least, told_most(told) < self.least)

    def written(self):
        return "worthy " + str(self.least)


class Both(Want):
    def __init__(self, one, two):
        self.one = one
        self.two = two

    def suits(self, thing, beat):
        return self.one.suits(thing, beat) and self.two.suits(thing, beat)

    def verdict(self, told, beat):
        judged = (self.one.verdict(told, beat), self.two.verdict(told, beat))
        return verdict_from(judged == ("every", "every"), "none" in judged)

    def written(self):
        return written_above_or(self.one) + " and " + written_above_and(self.two)


class Either(Want):
    def __init__(self, one, two):
        self.one = one
        self.two = two

    def suits(self, thing, beat):
        return self.one.suits(thing, beat) or self.two.suits(thing, beat)

    def verdict(self, told, beat):
        judged = (self.one.verdict(told, beat), self.two.verdict(told, beat))
        return verdict_from("every" in judged, judged == ("none", "none"))

    def written(self):
        return self.one.written() + " or " + written_above_or(self.two)


class Unless(Want):
    def __init__(self, one):
        self.one = one

    def suits(self, thing, beat):
        return not self.one.suits(thing, beat)

    def verdict(self, told, beat):
        judged = self.one.verdict(told, beat)
        return verdict_from(judged == "none", judged == "every")

    def written(self):
        return "not " + written_above_and(self.one)
