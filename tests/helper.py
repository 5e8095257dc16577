"""What the tests share: a check of kinds, small boxes and sides gone through one by one, a fixed row of numbers."""

from itertools import product

from driftwood import errors
from driftwood.boxes import box_gap, box_inside, boxes_meet
from driftwood.pages import make_fork, make_leaf
from driftwood.things import make_thing, thing_box, thing_told, tolds_poured
from driftwood.wants import (
    Anything, Both, Crosses, Either, Holds, Inside, Marked, Meets, Near, Touched, Unless, Worthy)

REFUSALS = ("NoThing", "NoWant", "NoPath", "NoHandle", "NoRoom", "Twice", "NoView", "NoWatch", "NoText")
# What is handed in where a number is due: none of these is one.
NO_NUMBERS = (None, True, False, "1", "", 1.0, float("nan"), float("inf"), 1j, b"1", (), (1,), [1], {1: 1}, {1}, object(), len)


def told_plainly(value):
    """Whether it is a number, a text, True, False, None, or tuples of such all the way down."""
    if type(value) is tuple:
        return all(told_plainly(part) for part in value)
    return value is None or type(value) in (int, str, bool)


def small_sides(least, most):
    """All sides (low, high) with ends from least to most, none of them turned."""
    return [(low, high) for low in range(least, most + 1) for high in range(low, most + 1)]


def points_of(box):
    """All whole points of a box, by going through its sides."""
    return set(product(*[range(low, high + 1) for low, high in box]))


def squared(one, two):
    return sum((a - b) ** 2 for a, b in zip(one, two))


def refusals_of(ask, *given, **named):
    """The names of all refusals that take what comes of asking; () where it is answered."""
    try:
        ask(*given, **named)
    except errors.DriftError as error:
        return tuple(name for name in REFUSALS if isinstance(error, getattr(errors, name)))
    return ()


def height_of(page):
    return 0 if page[0] == "leaf" else 1 + height_of(page[2][0])


def pages_beneath(page, path=()):
    """All pairs (path, page) from a page on, each page ahead of its own pages."""
    yield path, page
    if page[0] == "fork":
        for position, part in enumerate(page[2]):
            yield from pages_beneath(part, path + (position,))


def things_beneath(page):
    return [thing for path, part in pages_beneath(page) if part[0] == "leaf" for thing in part[2]]


def most_anew(old, new):
    """The most pages of one height of the new tree that are equal to no page of that height of the old one."""
    before = {}
    for path, page in pages_beneath(old):
        before.setdefault(height_of(page), []).append(page)
    anew = {}
    for path, page in pages_beneath(new):
        height = height_of(page)
        anew[height] = anew.get(height, 0) + (page not in before.get(height, []))
    return max(anew.values())


def paper_by_the_words(top, word_of):
    """The rows of a cut, page by page of the whole tree: those whose page above is an open row."""
    words = {}
    for path, page in pages_beneath(top):
        if path == () or words.get(path[:-1]) == "open":
            words[path] = word_of(page[1])
    return tuple(words.items())


def join_by_the_words(one, two, word_of, path=(), other=()):
    """[9.2]: rows (path, path, word, page, page), those behind an open row at once behind it."""
    word = word_of(one[1], two[1])
    yield path, other, word, one, two
    if word != "open" or (one[0], two[0]) == ("leaf", "leaf"):
        return
    if one[0] == "leaf":
        for k, part in enumerate(two[2]):
            yield from join_by_the_words(one, part, word_of, path, other + (k,))
    elif two[0] == "leaf":
        for k, part in enumerate(one[2]):
            yield from join_by_the_words(part, two, word_of, path + (k,), other)
    else:
        for k, part in enumerate(one[2]):
            for j, beside in enumerate(two[2]):
                yield from join_by_the_words(part, beside, word_of, path + (k,), other + (j,))


def join_paper(one, two, word_of):
    return tuple(row[:3] for row in join_by_the_words(one, two, word_of))


def pairs_of(one, two):
    """[9.1]: all pairs of things of unlike handles."""
    return [(a, b) for a in things_beneath(one) for b in things_beneath(two) if a[0] != b[0]]


def other_paths(path):
    """Numbers below nought, beyond the pages and beneath leaves among them."""
    others = [path + (0,), path + (-1,), path + (99,), (-1,) + path]
    if path:
        others += [path[:-1], path[:-1] + (-1,), path[:-1] + (path[-1] + 1,), path[:-1] + (10**20,)]
    return others


def spoilt_papers(paper):
    """The rows of no cut, each spoilt in one place of a paper; its rows have one path or two."""
    yield ()
    for place, (*paths, word) in enumerate(paper):
        ahead, row, behind = paper[:place], paper[place:place + 1], paper[place + 1:]
        yield ahead + behind
        yield ahead + row + row + behind
        if behind:
            yield ahead + behind[:1] + row + behind[1:]
        for other in ("", "Open", "open ", "every", "none", "leaf"):
            yield ahead + ((*paths, other),) + behind
        for k, path in enumerate(paths):
            for other in other_paths(path):
                changed = (*paths[:k], other, *paths[k + 1:], word)
                yield ahead + (changed,) + behind
                yield ahead + row + (changed,) + behind


def opened_mostly(row, word_of):
    """The right words, but open in their place now and then."""
    return lambda *tolds: "open" if row.number(0, 2) else word_of(*tolds)


def ills_by_the_words(top, room):
    """[5.4] once more, each of (a) to (d) by itself: a dict from each ill page's path to the letters that hold."""
    ills = {}
    for path, page in pages_beneath(top):
        kind, told, parts = page
        tolds = tuple(thing_told(part) if kind == "leaf" else part[1] for part in parts)
        letters = ""
        if told != tolds_poured(tolds):
            letters += "a"
        if len(parts) > room:
            letters += "b"
        if path != () and len(parts) < room // 2 or path == () and kind == "fork" and len(parts) < 2:
            letters += "c"
        if kind == "fork" and len({height_of(part) for part in parts}) > 1:
            letters += "d"
        if letters:
            ills[path] = letters
    return ills


def mixed_want(row, sides, depth):
    """Small numbers, so that all verdicts come."""
    kind = row.number(0, 11 if depth else 8)
    box = row.box(sides, 9)
    if kind < 9:
        return (
            Anything(), Meets(box), Inside(row.box(sides, 25)), Holds(tuple((a, a) for a, b in box)),
            Near(box, row.number(0, 60)), Marked(row.number(0, 15) & row.number(0, 15)), Touched(row.number(0, 15)),
            Crosses(box, row.number(0, 4), row.number(0, 9)), Worthy(row.number(-9, 9)))[kind]
    parts = [mixed_want(row, sides, depth - 1) for _ in range(2)]
    return (Both(*parts), Either(*parts), Unless(parts[0]))[kind - 9]


def suits_by_the_words(want, thing, beat):
    """[4.3] once more, by the boxes of each beat."""
    box = thing_box(thing, beat)
    if isinstance(want, Crosses):
        return any(boxes_meet(thing_box(thing, t), want.box) for t in range(want.first, want.last + 1))
    if isinstance(want, (Both, Either)):
        parts = [suits_by_the_words(part, thing, beat) for part in (want.one, want.two)]
        return all(parts) if isinstance(want, Both) else any(parts)
    if isinstance(want, Unless):
        return not suits_by_the_words(want.one, thing, beat)
    asks = {
        Anything: lambda: True, Meets: lambda: boxes_meet(box, want.box), Inside: lambda: box_inside(box, want.box),
        Holds: lambda: box_inside(want.box, box), Near: lambda: box_gap(box, want.box) <= want.far,
        Marked: lambda: all(thing[2] >> k & 1 for k in range(16) if want.marks >> k & 1),
        Touched: lambda: any(thing[2] >> k & 1 for k in range(16) if want.marks >> k & 1),
        Worthy: lambda: thing[3] >= want.least}
    return asks[type(want)]()


class Row:
    """A fixed row of numbers that looks mixed: the same in each run, so a fault can be found again."""

    def __init__(self, seed):
        self.state = seed

    def number(self, least, most):
        span = most - least + 1
        if span > 2**40:
            return least + self.wide(span.bit_length() + 16) % span
        self.state = (self.state * 6364136223846793005 + 1442695040888963407) % 2**64
        return least + (self.state >> 24) % span

    def wide(self, bits):
        """A number of up to so many bits, however many."""
        number = 0
        for _ in range(0, bits, 16):
            number = number << 16 | self.number(0, 2**16 - 1)
        return number % 2**bits

    def point(self, sides, reach):
        return tuple(self.number(-reach, reach) for _ in range(sides))

    def box(self, sides, reach):
        corners = zip(self.point(sides, reach), self.point(sides, reach))
        return tuple((min(pair), max(pair)) for pair in corners)

    def thing(self, handle, sides, reach):
        """A thing no wider than a tenth of what its lows reach over."""
        box = tuple((low, min(reach, low + self.number(0, reach // 5))) for low in self.point(sides, reach))
        return make_thing(handle, box, self.point(sides, 9), self.number(0, 65535), self.number(-99, 99))

    def small_thing(self, handle, sides):
        """One of numbers as small as those of the mixed wants."""
        box = tuple((low, low + self.number(0, 9)) for low in self.point(sides, 9))
        return make_thing(handle, box, self.point(sides, 2), self.number(0, 15), self.number(-9, 9))

    def small_things(self, many, sides):
        """Their handles are unlike, but neither one behind another nor rising."""
        return tuple(self.small_thing(handle * 7 % 1009, sides) for handle in range(1, many + 1))

    def tree(self, things, high):
        """A tree of any shape: leaves without things, leaves at unlike heights, forks of one page."""
        if high == 0 or self.number(0, 4) == 0:
            return make_leaf(things)
        cuts = sorted(self.number(0, len(things)) for _ in range(self.number(0, 3)))
        ends = zip([0] + cuts, cuts + [len(things)])
        return make_fork(tuple(self.tree(things[start:end], high - 1) for start, end in ends))

    def two_trees(self, most, sides, high):
        """Of unlike things, of the same ones, with some handles shared, or a tree with itself."""
        things = self.small_things(2 * most, sides)
        many, kind = self.number(0, most), self.number(0, 3)
        first = self.tree(things[:many], self.number(0, high))
        if kind == 0:
            return first, first
        if kind == 1:
            return first, self.tree(things[:many], self.number(0, high))
        if kind == 2:
            return first, self.tree(things[most:most + self.number(0, most)], self.number(0, high))
        moved = tuple(self.small_thing(thing[0], sides) for thing in things[:self.number(0, most)])
        return first, self.tree(moved[::-1], self.number(0, high))

    def mixed(self, values):
        """The same values in another order."""
        return tuple(sorted(values, key=lambda value: self.number(0, 2**32)))

    def frame(self, sides, reach, speed):
        """Its ends may be turned, its speeds too."""
        return tuple(
            (self.number(-reach, reach), self.number(-reach, reach),
             self.number(-speed, speed), self.number(-speed, speed))
            for _ in range(sides))

    def swath(self, sides, reach, speed):
        return tuple(
            (min(low, high), max(low, high), min(slow, fast), max(slow, fast))
            for low, high, slow, fast in self.frame(sides, reach, speed))
