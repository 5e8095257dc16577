"""Wants read from texts, by the words between single blanks."""

from driftwood.bounds import BEAT_BOUND, FAR_BOUND, MARKS_BOUND, WORTH_BOUND
from driftwood.errors import NoWant
from driftwood.figures import box_read, number_read
from driftwood.wants import (
    Anything, Both, Crosses, Either, Holds, Inside, Marked, Meets, Near, Touched, Unless, Worthy)

MOST_WORDS = 100
MOST_DEEP = 20


class WantReader:
    def __init__(self, words, sides):
        self.words = words
        self.sides = sides
        self.place = 0

    def at_end(self):
        return self.place == len(self.words)

    def stands_at(self, word):
        return not self.at_end() and self.words[self.place] == word

    def word_read(self):
        if self.at_end():
            raise NoWant("the text ends too soon")
        self.place += 1
        return self.words[self.place - 1]

    def number_from(self, least, most):
        number = number_read(self.word_read(), least, most)
        if number is None:
            raise NoWant("no number, or one beyond its bounds")
        return number

    def box_from(self):
        box = box_read(self.word_read(), self.sides)
        if box is None:
            raise NoWant("no box of so many sides")
        return box

    def either_from(self, deep):
        want = self.both_from(deep)
        while self.stands_at("or"):
            self.word_read()
            want = Either(want, self.both_from(deep))
        return want

    def both_from(self, deep):
        want = self.single_from(deep)
        while self.stands_at("and"):
            self.word_read()
            want = Both(want, self.single_from(deep))
        return want

    def single_from(self, deep):
        if deep > MOST_DEEP:
            raise NoWant("within too many brackets and nots")
        word = self.word_read()
        if word == "not":
            return Unless(self.single_from(deep + 1))
        if word == "(":
            want = self.either_from(deep + 1)
            if self.word_read() != ")":
                raise NoWant("a bracket is not shut")
            return want
        return self.plain_from(word)

    def plain_from(self, word):
        if word == "anything":
            return Anything()
        if word == "meets":
            return Meets(self.box_from())
        if word == "inside":
            return Inside(self.box_from())
        if word == "holds":
            return Holds(self.box_from())
        if word == "near":
            return self.near_from()
        if word == "marked":
            return Marked(self.number_from(0, MARKS_BOUND))
        if word == "touched":
            return Touched(self.number_from(0, MARKS_BOUND))
        if word == "crosses":
            return self.crosses_from()
        if word == "worthy":
            return Worthy(self.number_from(-WORTH_BOUND, WORTH_BOUND))
        raise NoWant("a word that begins no want")

    # The parts are named one by one, since they are read in the order in which they stand.
    def near_from(self):
        box = self.box_from()
        far = self.number_from(0, FAR_BOUND)
        return Near(box, far)

    def crosses_from(self):
        box = self.box_from()
        first = self.number_from(0, BEAT_BOUND)
        last = self.number_from(0, BEAT_BOUND)
        return Crosses(box, first, last)


def want_of(text, sides):
    words = text.split(" ")
    if len(words) > MOST_WORDS:
        raise NoWant("too many words")
    reader = WantReader(words, sides)
    want = reader.either_from(0)
    if not reader.at_end():
        raise NoWant("words behind the want")
    return want
