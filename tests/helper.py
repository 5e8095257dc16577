"""What the tests share: a check of kinds, small boxes and sides gone through one by one, a fixed row of numbers."""

from itertools import product

from driftwood import errors
from driftwood.things import make_thing, thing_told, tolds_poured

REFUSALS = ("NoThing", "NoWant", "NoPath", "NoHandle", "NoRoom", "Twice", "NoView", "NoWatch", "NoText")
# What is handed in where a number is due: none of these is one.
NO_NUMBERS = (None, True, False, "1", "", 1.0, float("nan"), float("inf"), 1j, b"1", (), (1,), [1], {1: 1}, {1}, object(), len)


def told_plainly(value):
    """Whether it is a number, a text, True, False, None, or tuples of such all the way down."""
    if type(value) is tuple:
        return all(told_plainly(part) for part in value)
    return value is None or type(value) in (int, str, bool)


def small_sides(least, most):
    """All sides (low, high) with ends from least to most, none of them turned."""
    return [(low, high) for low in range(least, most + 1) for high in range(low, most + 1)]


def points_of(box):
    """All whole points of a box, by going through its sides."""
    return set(product(*[range(low, high + 1) for low, high in box]))


def squared(one, two):
    return sum((a - b) ** 2 for a, b in zip(one, two))


def refusals_of(ask, *given, **named):
    """The names of all refusals that take what comes of asking; () where it is answered."""
    try:
        ask(*given, **named)
    except errors.DriftError as error:
        return tuple(name for name in REFUSALS if isinstance(error, getattr(errors, name)))
    return ()


def height_of(page):
    return 0 if page[0] == "leaf" else 1 + height_of(page[2][0])


def pages_beneath(page, path=()):
    """All pairs (path, page) from a page on, each page ahead of its own pages."""
    yield path, page
    if page[0] == "fork":
        for position, part in enumerate(page[2]):
            yield from pages_beneath(part, path + (position,))


def things_beneath(page):
    return [thing for path, part in pages_beneath(page) if part[0] == "leaf" for thing in part[2]]


def ills_by_the_words(top, room):
    """[5.4] once more, each of (a) to (d) by itself: a dict from each ill page's path to the letters that hold."""
    ills = {}
    for path, page in pages_beneath(top):
        kind, told, parts = page
        tolds = tuple(thing_told(part) if kind == "leaf" else part[1] for part in parts)
        letters = ""
        if told != tolds_poured(tolds):
            letters += "a"
        if len(parts) > room:
            letters += "b"
        if path != () and len(parts) < room // 2 or path == () and kind == "fork" and len(parts) < 2:
            letters += "c"
        if kind == "fork" and len({height_of(part) for part in parts}) > 1:
            letters += "d"
        if letters:
            ills[path] = letters
    return ills


class Row:
    """A fixed row of numbers that looks mixed: the same in each run, so a fault can be found again."""

    def __init__(self, seed):
        self.state = seed

    def number(self, least, most):
        self.state = (self.state * 6364136223846793005 + 1442695040888963407) % 2**64
        return least + (self.state >> 24) % (most - least + 1)

    def wide(self, bits):
        """A number of up to so many bits, however many."""
        number = 0
        for _ in range(0, bits, 16):
            number = number << 16 | self.number(0, 2**16 - 1)
        return number % 2**bits

    def point(self, sides, reach):
        return tuple(self.number(-reach, reach) for _ in range(sides))

    def box(self, sides, reach):
        corners = zip(self.point(sides, reach), self.point(sides, reach))
        return tuple((min(pair), max(pair)) for pair in corners)

    def thing(self, handle, sides, reach):
        """A thing no wider than a tenth of what its lows reach over."""
        box = tuple((low, low + self.number(0, reach // 5)) for low in self.point(sides, reach))
        return make_thing(handle, box, self.point(sides, 9), self.number(0, 65535), self.number(-99, 99))

    def mixed(self, values):
        """The same values in another order."""
        return tuple(sorted(values, key=lambda value: self.number(0, 2**32)))

    def frame(self, sides, reach, speed):
        """Its ends may be turned, its speeds too."""
        return tuple(
            (self.number(-reach, reach), self.number(-reach, reach),
             self.number(-speed, speed), self.number(-speed, speed))
            for _ in range(sides))

    def swath(self, sides, reach, speed):
        return tuple(
            (min(low, high), max(low, high), min(slow, fast), max(slow, fast))
            for low, high, slow, fast in self.frame(sides, reach, speed))
