"""[4.5] and [4.6]: wants read from texts."""

import unittest
from itertools import product

from driftwood.wantread import want_of
from driftwood.wants import (
    Anything, Both, Crosses, Either, Holds, Inside, Marked, Meets, Near, Touched, Unless, Worthy)
from tests.helper import Row, refusals_of

PLACE = 10**30
LAST = 10**15
# A box word for each count of sides, and the box that it writes.
WORDS = {2: "-3..5,0..0", 3: "-3..5,0..0,7..12"}
BOXES = {2: ((-3, 5), (0, 0)), 3: ((-3, 5), (0, 0), (7, 12))}
LEAVES = ("marked 1", "marked 2", "marked 3", "marked 4")


def parts_of(want):
    """A want as nested tuples: its class and all that it was made of."""
    named = {
        Anything: (), Meets: ("box",), Inside: ("box",), Holds: ("box",), Near: ("box", "far"), Marked: ("marks",),
        Touched: ("marks",), Crosses: ("box", "first", "last"), Worthy: ("least",), Both: ("one", "two"),
        Either: ("one", "two"), Unless: ("one",)}[type(want)]
    values = [getattr(want, name) for name in named]
    inner = [parts_of(value) if type(want) in (Both, Either, Unless) else value for value in values]
    return (type(want).__name__, *inner)


class Reading(unittest.TestCase):
    def read(self, text, want, sides=2):
        told = want_of(text, sides)
        self.assertEqual(parts_of(told), parts_of(want), text)
        return told

    def test_each_kind(self):
        for sides in (2, 3):
            word, box = WORDS[sides], BOXES[sides]
            for text, want in (
                    ("anything", Anything()), (f"meets {word}", Meets(box)), (f"inside {word}", Inside(box)),
                    (f"holds {word}", Holds(box)), (f"near {word} 12", Near(box, 12)), ("marked 9", Marked(9)),
                    ("touched 6", Touched(6)), (f"crosses {word} 3 44", Crosses(box, 3, 44)),
                    (f"crosses {word} 44 3", Crosses(box, 44, 3)), ("worthy -8", Worthy(-8)),
                    ("not anything", Unless(Anything())), ("( anything )", Anything()),
                    (f"marked 1 and meets {word}", Both(Marked(1), Meets(box))),
                    (f"meets {word} or marked 1", Either(Meets(box), Marked(1)))):
                self.assertEqual(self.read(text, want, sides).written(), text.replace("( ", "").replace(" )", ""))

    def test_what_is_read_tells_and_suits(self):
        want = want_of("meets 0..4,0..4 and not worthy 3", 2)
        thing = (1, ((4, 9, -1, -1), (4, 4, 0, 0)), 0, 2)
        self.assertIs(want.suits(thing, 0), True)
        self.assertIs(want.suits(thing, 10), False)

    A, B, C, D = Marked(1), Marked(2), Marked(3), Marked(4)

    def binds(self, text, want):
        for letter, leaf in zip("abcd", LEAVES):
            text = text.replace(letter + "_", leaf)
        self.read(text, want)

    def test_what_binds_most(self):
        a, b, c, d = self.A, self.B, self.C, self.D
        self.binds("not a_ and b_", Both(Unless(a), b))
        self.binds("not a_ or b_", Either(Unless(a), b))
        self.binds("a_ and not b_", Both(a, Unless(b)))
        self.binds("a_ or b_ and c_", Either(a, Both(b, c)))
        self.binds("a_ and b_ or c_", Either(Both(a, b), c))
        self.binds("a_ and b_ or c_ and d_", Either(Both(a, b), Both(c, d)))
        self.binds("a_ or b_ and c_ or d_", Either(Either(a, Both(b, c)), d))
        self.binds("not not a_", Unless(Unless(a)))

    def test_several_of_a_kind_from_the_left(self):
        a, b, c, d = self.A, self.B, self.C, self.D
        self.binds("a_ or b_ or c_", Either(Either(a, b), c))
        self.binds("a_ and b_ and c_", Both(Both(a, b), c))
        self.binds("a_ or b_ or c_ or d_", Either(Either(Either(a, b), c), d))
        self.binds("a_ and b_ and c_ and d_", Both(Both(Both(a, b), c), d))

    def test_brackets(self):
        a, b, c, d = self.A, self.B, self.C, self.D
        self.binds("a_ or ( b_ or c_ )", Either(a, Either(b, c)))
        self.binds("a_ and ( b_ and c_ )", Both(a, Both(b, c)))
        self.binds("( a_ or b_ ) and c_", Both(Either(a, b), c))
        self.binds("a_ and ( b_ or c_ ) and d_", Both(Both(a, Either(b, c)), d))
        self.binds("not ( a_ or b_ )", Unless(Either(a, b)))
        self.binds("not ( a_ and b_ ) and c_", Both(Unless(Both(a, b)), c))

    def test_more_brackets_than_needed(self):
        a, b, c = self.A, self.B, self.C
        self.binds("( ( a_ ) )", a)
        self.binds("( a_ and b_ ) or ( c_ )", Either(Both(a, b), c))
        self.binds("( ( a_ or b_ ) or c_ )", Either(Either(a, b), c))
        self.binds("( not ( a_ ) )", Unless(a))
        self.binds("not ( not a_ )", Unless(Unless(a)))

    def test_written_with_the_fewest(self):
        for text, fewest in (
                ("( ( marked 1 ) )", "marked 1"), ("( marked 1 and marked 2 ) or ( marked 3 )", "marked 1 and marked 2 or marked 3"),
                ("( marked 1 and marked 2 ) and marked 3", "marked 1 and marked 2 and marked 3"),
                ("not ( not ( anything ) )", "not not anything"),
                ("marked 1 or ( marked 2 or ( marked 3 ) )", "marked 1 or ( marked 2 or marked 3 )"),
                ("marked 1 and ( ( marked 2 and marked 3 ) )", "marked 1 and ( marked 2 and marked 3 )")):
            self.assertEqual(want_of(text, 2).written(), fewest)

    def test_what_is_written_reads_to_the_same(self):
        row = Row(46)
        brackets = 0
        for count in range(1500):
            sides = 2 + count % 2
            want = mixed_want(row, sides, row.number(0, 4))
            text = want.written()
            told = want_of(text, sides)
            self.assertEqual(parts_of(told), parts_of(want))
            self.assertEqual(told.written(), text)
            brackets += "(" in text
        self.assertGreater(brackets, 200)

    def test_no_pair_of_the_written_brackets_can_be_spared(self):
        row = Row(47)
        seen = 0
        for _ in range(400):
            want = mixed_want(row, 2, 3)
            words = want.written().split(" ")
            for start, end in bracket_pairs(words):
                seen += 1
                left = [word for place, word in enumerate(words) if place not in (start, end)]
                self.assertNotEqual(parts_of(want_of(" ".join(left), 2)), parts_of(want))
        self.assertGreater(seen, 200)


def bracket_pairs(words):
    pairs, begun = [], []
    for place, word in enumerate(words):
        if word == "(":
            begun.append(place)
        if word == ")":
            pairs.append((begun.pop(), place))
    return pairs


def mixed_want(row, sides, depth):
    kind = row.number(9, 13) if depth and row.number(0, 4) else row.number(0, 8)
    box = row.box(sides, PLACE if row.number(0, 1) else 9)
    if kind < 9:
        return (
            Anything(), Meets(box), Inside(box), Holds(box), Near(box, row.wide(200)), Marked(row.number(0, 65535)),
            Touched(row.number(0, 65535)), Crosses(box, row.number(0, LAST), row.number(0, LAST)),
            Worthy(row.number(-PLACE, PLACE)))[kind]
    parts = [mixed_want(row, sides, depth - 1) for _ in range(2)]
    return (Both(*parts), Either(*parts), Unless(parts[0]), Both(*parts), Either(*parts))[kind - 9]


class Numbers(unittest.TestCase):
    """Each kind of number at its bound and one beyond it; numbers that are none."""

    def refused(self, text, sides=2):
        self.assertEqual(refusals_of(want_of, text, sides), ("NoWant",), text)

    # A text with the number's place, the least and the greatest number, and the value that keeps it.
    PLACES = (
        ("marked N", 0, 65535, "marks"), ("touched N", 0, 65535, "marks"), ("worthy N", -PLACE, PLACE, "least"),
        ("near 0..0,0..0 N", 0, 10**62, "far"), ("crosses 0..0,0..0 N 0", 0, LAST, "first"),
        ("crosses 0..0,0..0 0 N", 0, LAST, "last"))

    def test_at_the_bounds(self):
        for text, least, most, name in self.PLACES:
            for number in (least, most, most // 2):
                self.assertEqual(getattr(want_of(text.replace("N", str(number)), 2), name), number)
            for number in (least - 1, most + 1, -most - 1, most * 10):
                self.refused(text.replace("N", str(number)))

    def test_places_at_the_bounds(self):
        for kind, tail in (("meets", ""), ("inside", ""), ("holds", ""), ("near", " 0"), ("crosses", " 0 0")):
            whole = f"{-PLACE}..{PLACE}"
            self.assertEqual(want_of(f"{kind} {whole},0..0{tail}", 2).box, ((-PLACE, PLACE), (0, 0)))
            self.assertEqual(want_of(f"{kind} 0..0,0..0,{whole}{tail}", 3).box, ((0, 0), (0, 0), (-PLACE, PLACE)))
            for side in (f"{-PLACE - 1}..0", f"0..{PLACE + 1}", f"{PLACE + 1}..{PLACE + 1}"):
                self.refused(f"{kind} {side},0..0{tail}")
                self.refused(f"{kind} 0..0,{side}{tail}")
                self.refused(f"{kind} 0..0,0..0,{side}{tail}", 3)

    NONE = ("", "+1", "+0", "-0", "01", "00", "-01", "-00", "1_000", "1,0", "a", "1a", "a1", "0x1", "1e3", "1.0", "1.",
            ".1", "-", "--1", "1-", "-+1", "\t1", "1\n", "1-2", "1/1", "one", "0b1", "'1'", "#", "~", "1;")

    def test_what_is_no_number(self):
        for word in self.NONE:
            for text, least, most, name in self.PLACES:
                self.refused(text.replace("N", word))
            for side in (f"{word}..9", f"-9..{word}", f"{word}..{word}"):
                self.refused(f"meets {side},0..0")
                self.refused(f"meets 0..0,{side}")

    def test_each_sign_that_is_no_figure(self):
        for code in range(32, 127):
            sign = chr(code)
            if not sign.isdigit():
                self.refused(f"marked 1{sign}")
                self.refused(f"worthy 1{sign}1")
                self.refused(f"meets 0..1{sign}1,0..0")
                self.assertEqual(refusals_of(want_of, f"worthy {sign}1", 2), () if sign == "-" else ("NoWant",))

    def test_figures_of_other_alphabets(self):
        for word in ("\u0661", "\u00b2", "\uff11", "1\u0661"):
            self.refused(f"marked {word}")
            self.refused(f"meets 0..{word},0..0")

    def test_many_figures(self):
        for figures in (64, 100, 1000, 3900, 5000):
            for text, least, most, name in self.PLACES:
                self.refused(text.replace("N", "1" * figures))
                self.refused(text.replace("N", "-" + "1" * figures))
                self.refused(text.replace("N", "0" * figures))
            self.refused("meets 0.." + "9" * figures + ",0..0")
        self.refused("near 0..0,0..0 " + "9" * 63)
        self.assertEqual(want_of("near 0..0,0..0 1" + "0" * 62, 2).far, 10**62)


class Refusing(unittest.TestCase):
    def refused(self, text, sides=2):
        self.assertEqual(refusals_of(want_of, text, sides), ("NoWant",), text)

    def test_low_above_high(self):
        for kind, tail in (("meets", ""), ("inside", ""), ("holds", ""), ("near", " 0"), ("crosses", " 0 0")):
            self.refused(f"{kind} 1..0,0..0{tail}")
            self.refused(f"{kind} 0..0,0..-1{tail}")
            self.refused(f"{kind} 0..0,0..0,10..9{tail}", 3)

    def test_another_count_of_sides(self):
        side = "0..0"
        for kind, tail in (("meets", ""), ("inside", ""), ("holds", ""), ("near", " 0"), ("crosses", " 0 0")):
            for sides, count in product((2, 3), (1, 2, 3, 4)):
                text = f"{kind} {','.join([side] * count)}{tail}"
                self.assertEqual(refusals_of(want_of, text, sides), () if sides == count else ("NoWant",))

    def test_what_is_no_box(self):
        for word in ("", ",", "0..0", "0..0,", ",0..0", "0..0,,0..0", "0..0,0..0,", "0..0,0", "0,0", "0.0,0..0", "0...0,0..0",
                     "0....0,0..0", "0..,0..0", "..0,0..0", "..,..", "0..0..0,0..0", "0..0;0..0", "(0..0,0..0)", "0-0,0-0",
                     "0..0, 0..0", "0 ..0,0..0", "0..0 ,0..0"):
            self.refused(f"meets {word}")
            self.refused(f"near {word} 3")

    def test_blanks(self):
        for text in ("marked 1", "marked 1 and marked 2", "not anything", "( anything )", "near 0..0,0..0 3"):
            self.assertEqual(refusals_of(want_of, text, 2), ())
            self.refused(" " + text)
            self.refused(text + " ")
            self.refused("  " + text + "  ")
            for place, sign in enumerate(text):
                if sign == " ":
                    self.refused(text[:place] + " " + text[place:])
                    self.refused(text[:place] + text[place + 1:])
                    self.refused(text[:place] + "\t" + text[place + 1:])

    def test_without_words(self):
        for text in ("", " ", "  ", "   "):
            self.refused(text)

    def test_brackets_lost_or_too_many(self):
        for text in ("(", ")", "( )", "( anything", "anything )", "( ( anything )", "( anything ) )", ") anything (",
                     "not ( anything", "( anything or anything", "anything or anything )", "( ) anything", "()",
                     "(anything)", "( anything)", "anything ( )", "( anything ) ( anything )", "( not ) anything",
                     "( anything and ) anything", "marked ( 1 )", "near ( 0..0,0..0 3 )", "[ anything ]"):
            self.refused(text)

    def test_and_or_not_without_a_side(self):
        for text in ("and", "or", "not", "anything and", "and anything", "anything or", "or anything", "not not",
                     "anything not", "anything and or anything", "anything or or anything", "anything and and anything",
                     "not and anything", "not or anything", "anything and not", "anything or not", "not ( )",
                     "( and )", "( anything or )", "( or anything )", "anything not anything", "not not not"):
            self.refused(text)

    def test_two_wants_side_by_side(self):
        for text in ("anything anything", "marked 1 marked 2", "marked 1 2", "anything 3", "near 0..0,0..0 3 3",
                     "anything ( anything )", "( anything ) anything", "crosses 0..0,0..0 1 2 3", "meets 0..0,0..0 0..0,0..0",
                     "anything or anything anything", "not anything anything"):
            self.refused(text)

    def test_words_that_lack(self):
        for text in ("meets", "inside", "holds", "near", "near 0..0,0..0", "near 3", "near 3 0..0,0..0", "marked", "touched",
                     "crosses", "crosses 0..0,0..0", "crosses 0..0,0..0 3", "crosses 3 4 0..0,0..0", "worthy",
                     "marked and marked 2", "meets or anything", "meets 3", "marked 0..0,0..0", "worthy anything"):
            self.refused(text)

    def test_words_that_are_none(self):
        for text in ("Anything", "ANYTHING", "any", "anythin", "everything", "want", "Meets 0..0,0..0", "meet 0..0,0..0",
                     "mark 1", "anything AND anything", "anything & anything", "anything xor anything", "NOT anything",
                     "unless anything", "both anything anything", "either anything anything", "!", "~", "0", "-3..5,0..0",
                     "anything,anything", "anything;", "none", "None", "*"):
            self.refused(text)

    def test_the_count_of_words(self):
        for text, words in ((" and ".join(["marked 1"] * 33), 98), (" or ".join(["anything"] * 50), 99)):
            self.assertEqual(len(text.split(" ")), words)
            self.assertEqual(want_of(text, 2).written(), text)
        for join in (" and ", " or "):
            hundred = "not " + join.join(["anything"] * 50)
            self.assertEqual(len(hundred.split(" ")), 100)
            self.assertEqual(want_of(hundred, 2).written(), hundred)
            self.assertEqual(len(join.join(["anything"] * 51).split(" ")), 101)
            self.refused(join.join(["anything"] * 51))
            self.refused("not " + hundred)
            self.refused("( anything )" + join + join.join(["anything"] * 49))
        brackets = "( anything ) or " * 24 + "near 0..0,0..0 1"
        self.assertEqual(len(brackets.split(" ")), 99)
        self.assertEqual(refusals_of(want_of, brackets, 2), ())
        self.refused(brackets + " or anything")
        self.refused("anything and " * 500 + "anything")

    def test_a_box_is_one_word(self):
        text = " and ".join(["meets 0..0,0..0,0..0"] * 33) + " and"
        self.assertEqual(len(text.split(" ")), 99)
        self.assertEqual(refusals_of(want_of, text + " anything", 3), ())

    def test_the_count_of_brackets_and_nots(self):
        for count, due in ((19, ()), (20, ()), (21, ("NoWant",)), (22, ("NoWant",)), (40, ("NoWant",))):
            texts = ["not " * count + "anything", "( " * count + "anything" + " )" * count]
            for nots in range(0, count + 1, 3):
                within = count - nots
                texts.append("not " * nots + "( " * within + "anything" + " )" * within)
                texts.append("( " * within + "not " * nots + "anything" + " )" * within)
            texts.append("marked 3 and " + texts[0] + " or marked 4")
            texts.append("( " * count + "anything" + " )" * (count - 5) + " and marked 3" + " )" * 5)
            for text in texts:
                if len(text.split(" ")) <= 100:
                    self.assertEqual(refusals_of(want_of, text, 2), due, text)

    def test_each_place_within_counts_by_itself(self):
        deep = "not " * 20 + "anything"
        self.assertEqual(refusals_of(want_of, deep + " and " + deep + " or " + deep, 2), ())
        self.assertEqual(refusals_of(want_of, "( " * 20 + "anything" + " )" * 20 + " or " + deep, 2), ())
        self.assertEqual(refusals_of(want_of, "not ( anything ) and " + deep, 2), ())
        self.refused("not ( " + "not " * 18 + "anything and not anything or " + "not " * 19 + "anything )")
        self.assertEqual(
            refusals_of(want_of, "not ( " + "not " * 18 + "anything and not anything or " + "not " * 18 + "anything )", 2), ())

    def test_long_texts(self):
        self.refused("( " * 1999 + "a")
        self.refused("not " * 999 + "anyt")
        self.refused("a" * 4000)
        self.refused(" " * 4000)


if __name__ == "__main__":
    unittest.main()
