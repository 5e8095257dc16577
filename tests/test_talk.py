"""[11.1], [11.2]: talk."""

import re
import unittest

from driftwood.ask import all_that, how_many
from driftwood.closest import closest_pair
from driftwood.errors import NoWant
from driftwood.join import meetings_of, near_pairs
from driftwood.near import nearest
from driftwood.talk import Talk, talked
from driftwood.things import make_thing
from driftwood.wantread import want_of
from tests.helper import NO_NUMBERS, Row, mixed_want, refusals_of, told_plainly
from tests.test_store import state_of

BOX = ((0, 4), (0, 4))
PLACE = "1" + "0" * 30
BEYOND = "1" + "0" * 29 + "1"
HANDLE = "1" + "0" * 18
BEAT = "1" + "0" * 15
FAR = "1" + "0" * 62

FEW = (
    "put 1 0..1,0..1", "put 2 3..4,0..1 drift 1,0 marks 3 worth -4", "put 30 10..10,0..0 drift -1,0 marks 1 worth 7",
    "put 4 10..12,5..5 worth 9")


def few():
    talk = Talk(2, 4)
    for line in FEW:
        talk.say(line)
    return talk


class Talking(unittest.TestCase):
    def say(self, talk, line, due):
        self.assertEqual(talk.say(line), due, line)

    def refuse(self, talk, line, name):
        before = state_of(talk.store_now())
        self.say(talk, line, "refused " + name)
        self.assertEqual(state_of(talk.store_now()), before)


class Made(unittest.TestCase):
    def test_refused_as_a_store_is(self):
        for wrong in NO_NUMBERS + (0, 1, 17, -4):
            self.assertEqual(refusals_of(Talk, wrong, 4), ("NoRoom",))
            self.assertEqual(refusals_of(Talk, 2, wrong), ("NoRoom",))
            self.assertEqual(refusals_of(talked, (), wrong, 4), ("NoRoom",))
            self.assertEqual(refusals_of(talked, ("close",), 2, wrong), ("NoRoom",))
        self.assertEqual(Talk(room=16, sides=3).say(line="close"), "none")

    def test_talked(self):
        self.assertEqual(talked((), 2, 4), ())
        lines = FEW + ("ask anything", "nothing", "take 1", "ask anything")
        due = ("done 1", "done 2", "done 3", "done 4", "1 2 4 30", "refused NoText", "done 5", "2 4 30")
        self.assertEqual(talked(lines, 2, 4), due)
        self.assertEqual(talked(room=4, sides=2, lines=lines), due)
        self.assertTrue(told_plainly(talked(lines, 2, 4)))

    def test_the_store_now(self):
        talk = Talk(2, 4)
        store = talk.store_now()
        self.assertIs(talk.store_now(), store)
        self.assertEqual(store.put(5, BOX), 1)
        self.assertEqual((talk.say("ask anything"), talk.say("put 6 0..0,0..0"), talk.say("put 5 0..0,0..0")), ("5", "done 2", "refused Twice"))
        self.assertIs(talk.store_now(), store)
        self.assertEqual((store.handles(), store.deeds_done()), ((5, 6), 2))

    def test_two_talks_side_by_side(self):
        one, two = Talk(2, 4), Talk(2, 4)
        one.say("put 1 0..0,0..0")
        one.say("watch anything")
        self.assertEqual((two.say("ask anything"), two.say("heard 0"), two.say("put 1 5..5,5..5")), ("none", "refused NoWatch", "done 1"))
        self.assertEqual((one.say("heard 0"), one.say("near 1 0..0,0..0"), two.say("near 1 0..0,0..0")), ("none", "0:1", "50:1"))


class Deeds(Talking):
    """[11.1]: put, take, move, stamp"""

    def test_put_with_all_that_may_be_left_out(self):
        talk, number = Talk(2, 4), 0
        for drift, speeds in (("", None), (" drift 3,-4", (3, -4)), (" drift 0,0", None)):
            for marked, marks in (("", 0), (" marks 5", 5), (" marks 0", 0)):
                for worthy, worth in (("", 0), (" worth -6", -6), (" worth 7", 7)):
                    number += 1
                    self.say(talk, f"put {number} -3..5,0..0" + drift + marked + worthy, f"done {number}")
                    self.assertEqual(
                        talk.store_now().thing_of(number), make_thing(number, ((-3, 5), (0, 0)), speeds, marks, worth))

    def test_three_sides(self):
        talk = Talk(3, 4)
        self.say(talk, "put 0 -3..5,0..0,7..9 drift 1,2,3", "done 1")
        self.assertEqual(talk.store_now().thing_of(0), make_thing(0, ((-3, 5), (0, 0), (7, 9)), (1, 2, 3)))
        self.say(talk, "move 0 1..1,1..1,1..1", "done 2")
        self.refuse(talk, "put 1 -3..5,0..0", "NoText")
        self.refuse(talk, "put 1 0..0,0..0,0..0 drift 1,2", "NoText")

    def test_take_move_stamp(self):
        talk = few()
        self.say(talk, "move 2 7..8,9..9", "done 5")
        self.assertEqual(talk.store_now().thing_of(2), make_thing(2, ((7, 8), (9, 9)), None, 3, -4))
        self.say(talk, "move 2 7..8,9..9 drift 0,-6", "done 6")
        self.assertEqual(talk.store_now().thing_of(2), make_thing(2, ((7, 8), (9, 9)), (0, -6), 3, -4))
        self.say(talk, "stamp 2 65535 -1", "done 7")
        self.assertEqual(talk.store_now().thing_of(2), make_thing(2, ((7, 8), (9, 9)), (0, -6), 65535, -1))
        self.say(talk, "take 2", "done 8")
        self.assertEqual(talk.store_now().handles(), (1, 4, 30))

    def test_refused_by_their_class_names(self):
        talk = few()
        self.refuse(talk, "put 1 0..0,0..0", "Twice")
        for line in ("take 3", "move 3 0..0,0..0", "stamp 3 1 1", f"take {HANDLE}"):
            self.refuse(talk, line, "NoHandle")
        for line in ("ask anything in 5", "count anything in 5", "near 1 0..0,0..0 in 5", "pairs 1 in 5", "meet 0 1 in 5",
                     "close in 5", f"close in {HANDLE}"):
            self.refuse(talk, line, "NoView")
        for line in ("heard 0", "unwatch 0", f"heard {HANDLE}", f"unwatch {HANDLE}"):
            self.refuse(talk, line, "NoWatch")

    def test_a_thousand_and_one_more(self):
        talk = Talk(2, 16)
        for handle in range(1000):
            talk.store_now().put(handle, ((handle, handle), (0, 0)))
        before = talk.store_now().tree_at()
        self.say(talk, "put 1000 0..0,0..0", "refused NoRoom")
        self.say(talk, "put 7 0..0,0..0", "refused Twice")
        self.assertEqual((talk.store_now().deeds_done(), talk.store_now().tree_at()), (1000, before))
        self.say(talk, "take 7", "done 1001")
        self.say(talk, "put 1000 0..0,0..0", "done 1002")


class Questions(Talking):
    """[11.1]: the questions, written out and against the store's own"""

    def test_ask(self):
        for line, due in (
                ("ask anything", "1 2 4 30"), ("ask meets 4..9,0..0", "2"), ("ask meets 4..9,0..0 at 3", "2 30"),
                ("ask meets 4..9,0..0 in 1", "none"), ("ask meets 4..9,0..0 at 3 in 2", "2"), ("ask anything in 0", "none"),
                ("ask anything in 4", "1 2 4 30"), ("ask marked 1 and not worthy 0 or holds 11..12,5..5 at 0", "2 4"),
                ("ask ( ( anything ) )", "1 2 4 30"), ("ask anything at 0 in 0", "none")):
            self.say(few(), line, due)

    def test_count(self):
        for line, due in (
                ("count anything", "4 12"), ("count anything in 2", "2 -4"), ("count anything in 0", "0 0"),
                ("count meets 4..9,0..0 at 3", "2 3"), ("count meets 4..9,0..0 at 3 in 2", "1 -4"), ("count worthy 10", "0 0")):
            self.say(few(), line, due)

    def test_near(self):
        for line, due in (
                ("near 2 6..6,0..0", "4:2 16:30"), ("near 1000 6..6,0..0", "4:2 16:30 25:1 41:4"), ("near 0 6..6,0..0", "none"),
                ("near 2 6..6,0..0 at 4", "0:30 1:2"), ("near 2 6..6,0..0 in 1", "25:1"), ("near 1 6..6,0..0 in 0", "none"),
                ("near 9 6..6,0..0 of marked 1", "4:2 16:30"), ("near 9 6..6,0..0 of marked 1 at 4 in 2", "1:2"),
                ("near 9 6..6,0..0 of marked 1 in 2", "4:2"), ("near 9 6..6,0..0 of marked 1 at 4", "0:30 1:2"),
                ("near 9 6..6,0..0 of worthy 99", "none"), ("near 1 6..6,0..0 of ( not anything or marked 2 )", "4:2")):
            self.say(few(), line, due)

    def test_pairs(self):
        for line, due in (
                ("pairs 4", "1-2"), ("pairs 3", "none"), ("pairs 25", "1-2 4-30"), ("pairs 4 at 3", "2-30"),
                ("pairs 4 in 1", "none"), ("pairs 100 at 2 in 2", "1-2"), (f"pairs {FAR}", "1-2 1-4 1-30 2-4 2-30 4-30")):
            self.say(few(), line, due)

    def test_meet(self):
        for line, due in (
                ("meet 0 2", "none"), ("meet 0 99", "3:2-30 9:1-30"), ("meet 4 99", "9:1-30"), ("meet 0 99 in 2", "none"),
                ("meet 3 3", "3:2-30"), ("meet 4 3", "none"), (f"meet 0 {BEAT} in 3", "3:2-30 9:1-30")):
            self.say(few(), line, due)

    def test_close(self):
        for line, due in (
                ("close", "4:1-2"), ("close at 3", "0:2-30"), ("close in 1", "none"), ("close in 0", "none"),
                ("close at 2 in 2", "16:1-2"), ("close at 0 in 4", "4:1-2")):
            self.say(few(), line, due)

    def test_watches(self):
        talk = few()
        self.say(talk, "watch marked 1", "0 2 30")
        self.say(talk, "watch meets 4..9,0..0 at 3", "1 2 30")
        self.say(talk, "watch worthy 50", "2")
        self.say(talk, "heard 0", "none")
        self.say(talk, "take 30", "done 5")
        self.say(talk, "stamp 1 1 99", "done 6")
        self.say(talk, "stamp 2 2 99", "done 7")
        self.say(talk, "heard 0", "-30 +1 -2")
        self.say(talk, "heard 0", "none")
        self.say(talk, "unwatch 0", "gone")
        self.refuse(talk, "heard 0", "NoWatch")
        self.refuse(talk, "unwatch 0", "NoWatch")
        self.say(talk, "heard 1", "-30")
        self.say(talk, "heard 2", "+1 +2")
        self.say(talk, "watch anything", "3 1 2 4")

    def test_a_bad_line_sets_and_asks_no_watch(self):
        talk = few()
        for line in ("watch", "watch ", "watch nonsense", "watch anything at x", "watch anything at", "watch anything in 0"):
            self.assertTrue(talk.say(line).startswith("refused "), line)
        self.say(talk, "watch worthy 50", "0")
        self.say(talk, "stamp 1 1 99", "done 5")
        for line in ("heard 0 0", "heard  0", "heard 0 ", "unwatch 0 0", "unwatch 00"):
            self.refuse(talk, line, "NoText")
        self.say(talk, "heard 0", "+1")

    def test_against_the_stores_own(self):
        row = Row(200)
        for count in range(60):
            sides = 2 + count % 2
            talk = Talk(sides, 4 + count % 13)
            store = talk.store_now()
            for handle in range(row.number(0, 25)):
                thing = row.small_thing(handle, sides)
                store.put(handle, tuple(side[:2] for side in thing[1]), tuple(side[2] for side in thing[1]), *thing[2:])
            for _ in range(6):
                want, beat, view = mixed_want(row, sides, 2), row.number(0, 5), row.number(0, store.deeds_done())
                at, beat = (("", 0), (f" at {beat}", beat))[row.number(0, 1)]
                inside, view = (("", None), (f" in {view}", view))[row.number(0, 1)]
                top, text, box, far = store.tree_at(view), want.written(), row.box(sides, 9), row.number(0, 80)
                place = ",".join(f"{low}..{high}" for low, high in box)
                handles, told = all_that(top, want, beat)[0], how_many(top, want, beat)
                self.say(talk, f"ask {text}{at}{inside}", " ".join(map(str, handles)) or "none")
                self.say(talk, f"count {text}{at}{inside}", f"{told[0]} {told[1]}")
                rows = nearest(top, box, 5, beat, want)[0]
                self.say(talk, f"near 5 {place} of {text}{at}{inside}", " ".join("%d:%d" % one for one in rows) or "none")
                rows = nearest(top, box, 7, beat)[0]
                self.say(talk, f"near 7 {place}{at}{inside}", " ".join("%d:%d" % one for one in rows) or "none")
                pairs = [pair for pair in near_pairs(top, top, far, beat)[0] if pair[0] < pair[1]]
                self.say(talk, f"pairs {far}{at}{inside}", " ".join("%d-%d" % one for one in pairs) or "none")
                rows = [one for one in meetings_of(top, top, beat, 7)[0] if one[1] < one[2]]
                self.say(talk, f"meet {beat} 7{inside}", " ".join("%d:%d-%d" % one for one in rows) or "none")
                closest = closest_pair(top, top, beat)[0]
                self.say(talk, f"close{at}{inside}", "none" if closest is None else "%d:%d-%d" % closest)


class Refused(Talking):
    """[11.2]"""

    def test_no_line_at_all(self):
        talk = few()
        for line in (
                "", " ", "  ", "hello", "Put 1 0..0,0..0", "PUT 9 0..0,0..0", "puts 9 0..0,0..0", "in 3", "at 3", "of anything",
                "refused", "done 1", "anything", "not anything", "(", "none", "put\t9 0..0,0..0", "close\n", "say close", "drift 1,1"):
            self.refuse(talk, line, "NoText")

    def test_a_word_too_few(self):
        talk = few()
        for line in (
                "put", "put 9", "put 9 0..0,0..0 drift", "put 9 0..0,0..0 marks", "put 9 0..0,0..0 worth",
                "put 9 0..0,0..0 drift 1,1 marks", "put 0..0,0..0", "take", "move", "move 1", "move 1 0..0,0..0 drift",
                "stamp", "stamp 1", "stamp 1 1", "ask", "ask in 1", "ask at 1", "ask at 1 in 1", "count", "count at 1 in 1",
                "near", "near 1", "near 0..0,0..0", "near 1 at 1", "near 1 0..0,0..0 of", "near 1 0..0,0..0 of at 1",
                "near 1 0..0,0..0 of in 1", "near 1 0..0,0..0 of at 1 in 1", "pairs", "pairs at 1", "pairs in 1", "meet", "meet 1",
                "meet 1 in 1", "watch", "watch at 1", "heard", "unwatch", "close at", "close in", "close 1"):
            self.refuse(talk, line, "NoText")

    def test_a_word_too_many(self):
        talk = few()
        talk.say("watch anything")
        for line in (
                "put 9 0..0,0..0 1", "put 9 0..0,0..0 drift 1,1 1", "put 9 0..0,0..0 drift 1,1 drift 1,1", "put 9 9 0..0,0..0",
                "put 9 0..0,0..0 marks 1 marks 1", "put 9 0..0,0..0 worth 1 marks 1", "put 9 0..0,0..0 marks 1 drift 1,1",
                "put 9 0..0,0..0 at 1", "put 9 0..0,0..0 worth 1 in 1", "take 1 1", "take 1 in 1", "move 1 0..0,0..0 1",
                "move 1 0..0,0..0 drift 1,1 marks 1", "move 1 0..0,0..0 marks 1", "stamp 1 1 1 1", "stamp 1 1 1 in 1",
                "near 1 0..0,0..0 anything", "near 1 0..0,0..0 1", "near 1 1 0..0,0..0", "pairs 1 1", "pairs 1 of anything",
                "pairs 1 in 1 at 1", "pairs 1 at 1 at 1", "pairs 1 in 1 in 1", "meet 1 1 1", "meet 1 2 at 1", "meet 1 2 at 1 in 1",
                "meet 1 2 in 1 in 1", "close close", "close in 1 at 1", "close at 1 at 1", "close of anything",
                "heard 0 0", "heard 0 in 1", "heard 0 at 1", "unwatch 0 0", "unwatch 0 in 1"):
            self.refuse(talk, line, "NoText")

    def test_blanks(self):
        talk = few()
        talk.say("watch anything")
        good = (
            "put 9 0..0,0..0 drift 1,1 marks 1 worth 1", "take 1", "move 1 0..0,0..0 drift 1,1", "stamp 1 1 1",
            "near 1 0..0,0..0 at 1 in 1", "pairs 1 at 1 in 1", "meet 1 1 in 1", "close at 1 in 1", "heard 0", "unwatch 0")
        for line in good:
            self.refuse(talk, " " + line, "NoText")
            self.refuse(talk, line + " ", "NoText")
            for place in [match.start() for match in re.finditer(" ", line)]:
                self.refuse(talk, line[:place] + " " + line[place:], "NoText")
                self.refuse(talk, line[:place] + line[place + 1:], "NoText")
                self.refuse(talk, line[:place] + "\t" + line[place + 1:], "NoText")
        for line in ("ask anything", "count anything", "watch anything", "near 1 0..0,0..0 of anything"):
            self.refuse(talk, " " + line, "NoText")

    def test_blanks_among_a_wants_words(self):
        talk = few()
        for line in (
                "ask ", "ask  ", "ask  anything", "ask anything ", "ask anything  at 1", "ask anything at  1", "ask anything at 1 ",
                "ask anything  in 1", "ask anything in  1", "ask anything in 1 ", "ask  at 1", "ask  in 1", "ask  at 1 in 1",
                "ask marked  1", "ask anything  and anything", "count ", "count  anything", "watch ", "watch  ", "watch  anything",
                "watch anything  at 1", "watch  at 1", "near 1 0..0,0..0 of ", "near 1 0..0,0..0 of  ",
                "near 1 0..0,0..0 of  anything", "near 1 0..0,0..0 of anything ", "near 1 0..0,0..0 of  at 1 in 1"):
            self.refuse(talk, line, "NoWant")
        for line in ("near  1 0..0,0..0 of anything", "near 1  0..0,0..0 of anything", "near 1 0..0,0..0  of anything"):
            self.refuse(talk, line, "NoText")

    def test_no_want(self):
        talk = few()
        for want in (
                "hello", "in", "at", "of", "anything in", "anything at", "not", "(", ")", "( anything", "marked", "marked 65536",
                "marked -1", "meets", "meets 0..0", "meets 0..0,0..0,0..0", "meets 1..0,0..0", "near 0..0,0..0", "anything anything",
                "and", "anything and", "worthy x", f"worthy {BEYOND}", "crosses 0..0,0..0 1", "Anything", "anything or or anything",
                " ".join(["anything"] + ["or anything"] * 50), "( " * 21 + "anything" + " )" * 21, "not " * 21 + "anything"):
            for line in (f"ask {want}", f"count {want}", f"watch {want}", f"near 1 0..0,0..0 of {want}", f"ask {want} at 1",
                         f"ask {want} in 1", f"ask {want} at 1 in 1", f"watch {want} at 1", f"near 1 0..0,0..0 of {want} at 1 in 1"):
                self.refuse(talk, line, "NoWant")
        for line in ("watch anything in 1", "watch anything at 1 in 1", "watch anything in 1 at 1", "ask anything in 1 at 1",
                     "ask anything at 1 at 1", "ask anything in 1 in 1", "ask anything at in 1", "count anything of anything"):
            self.refuse(talk, line, "NoWant")

    def test_at_and_in_within_a_wants_words(self):
        talk = few()
        self.refuse(talk, "ask in at 1", "NoWant")
        self.refuse(talk, "ask in in 1", "NoWant")
        self.refuse(talk, "ask at at 1", "NoWant")
        self.refuse(talk, "ask at in 1", "NoWant")
        self.refuse(talk, "ask anything in anything", "NoText")
        self.refuse(talk, "ask anything at anything", "NoText")
        self.refuse(talk, "ask anything at anything in 1", "NoText")
        self.refuse(talk, "ask in anything", "NoText")
        self.refuse(talk, "watch at anything", "NoText")
        self.refuse(talk, "watch in anything", "NoWant")
        self.refuse(talk, "ask anything and at in 1", "NoWant")
        self.refuse(talk, "ask anything in and at 1", "NoWant")
        self.refuse(talk, "near 1 0..0,0..0 of in 1 at 1", "NoWant")

    def test_no_text_ahead_of_no_want(self):
        talk = few()
        for line in (
                "ask hello at x", "ask hello in x", "ask hello at x in 1", "ask hello at 1 in x", f"ask hello at 1{BEAT}",
                f"ask hello in 1{HANDLE}", "count hello in -1", "count hello at -1", "watch hello at x", "near x 0..0,0..0 of hello",
                "near 1 0..0 of hello", "near 1001 0..0,0..0 of hello", "near 1 1..0,0..0 of hello", "near 1 0..0,0..0 of hello at x"):
            self.refuse(talk, line, "NoText")

    def test_no_want_ahead_of_what_the_question_is_refused_for(self):
        talk = few()
        for line in ("ask hello in 99", "count hello in 99", "near 1 0..0,0..0 of hello in 99"):
            self.refuse(talk, line, "NoWant")
        self.refuse(talk, "ask anything in 99", "NoView")

    def test_a_bad_line_ahead_of_what_the_deed_is_refused_for(self):
        talk = few()
        for line in ("put 1 0..0", "put 1 0..0,0..0 marks 65536", "take 99 99", "move 99 0..0", "stamp 99 -1 0", "heard x",
                     "close at x in 99"):
            self.refuse(talk, line, "NoText")

    def test_odd_numbers(self):
        talk = few()
        for number in ("", "-", "01", "-0", "+1", "1.0", "1_0", "0x1", "x", "1e3", "--1", "1-", "\u0661", "None", "True", "1" * 64):
            for line in (
                    "put {} 0..0,0..0", "put 9 {}..9,0..0", "put 9 -9..{},0..0", "put 9 0..0,0..{}", "put 9 0..0,0..0 drift {},0",
                    "put 9 0..0,0..0 drift 0,{}", "put 9 0..0,0..0 marks {}", "put 9 0..0,0..0 worth {}", "take {}",
                    "move {} 0..0,0..0", "stamp {} 1 1", "stamp 1 {} 1", "stamp 1 1 {}", "near {} 0..0,0..0", "pairs {}",
                    "meet {} 1", "meet 1 {}", "close at {}", "close in {}", "ask anything at {}", "count anything in {}",
                    "watch anything at {}", "heard {}", "unwatch {}"):
                self.refuse(talk, line.replace("{}", number), "NoText")

    def test_odd_boxes_and_speeds(self):
        talk = few()
        for box in ("0..0", "0..0,0..0,0..0", "0..0,", ",0..0,0..0", "0..0;0..0", "0..0,1..0", "1..0,0..0", "0,0", "0...0,0..0",
                    "0..0..0,0..0", "(0..0,0..0)", "0..,0..0", f"-{BEYOND}..0,0..0", f"0..0,0..{BEYOND}"):
            for line in (f"put 9 {box}", f"move 1 {box}", f"near 1 {box}"):
                self.refuse(talk, line, "NoText")
        for speeds in ("1", "1,2,3", "1,", ",1", "1;2", "1..2", "1..2,3..4", f"1{BEAT},0", f"0,-1{BEAT}"):
            for line in (f"put 9 0..0,0..0 drift {speeds}", f"move 1 0..0,0..0 drift {speeds}"):
                self.refuse(talk, line, "NoText")


class Bounds(Talking):
    """[11.2]: numbers just at their bounds and one beyond"""

    def bound(self, line, most, due=None, least="0"):
        """A line with {} for a number from least to most."""
        talk = few()
        for number, good in ((least, True), (most, True), (str(int(least) - 1), False), (str(int(most) + 1), False)):
            told = talk.say(line.replace("{}", number))
            self.assertEqual(told != "refused NoText", good, (line, number, told))
            if good and due:
                self.assertTrue(told.startswith(due), told)

    def test_deeds(self):
        self.bound("put {} 0..0,0..0", HANDLE, "done")
        self.bound("take {}", HANDLE, "refused NoHandle")
        self.bound("move {} 0..0,0..0", HANDLE, "refused NoHandle")
        self.bound("stamp {} 0 0", HANDLE, "refused NoHandle")
        self.bound("stamp 1 {} 0", "65535", "done")
        self.bound("stamp 1 0 {}", PLACE, "done", "-" + PLACE)
        self.bound("move 1 {}..{},0..0", PLACE, "done", "-" + PLACE)
        self.bound("move 1 0..0,{}..{} drift 1,1", PLACE, "done", "-" + PLACE)
        self.bound("move 1 0..0,0..0 drift {},0", BEAT, "done", "-" + BEAT)
        self.bound("move 1 0..0,0..0 drift 0,{}", BEAT, "done", "-" + BEAT)

    def test_puts(self):
        for words, most, least in ((" marks {}", "65535", "0"), (" worth {}", PLACE, "-" + PLACE), (" drift {},{}", BEAT, "-" + BEAT)):
            for handle, number, due in ((8, most, True), (9, least, True), (10, str(int(most) + 1), False), (11, str(int(least) - 1), False)):
                told = few().say(f"put {handle} 0..0,0..0" + words.replace("{}", number))
                self.assertEqual(told, "done 5" if due else "refused NoText")
        for number, due in ((PLACE, True), ("-" + PLACE, True), (BEYOND, False), (str(-10**30 - 1), False)):
            self.assertEqual(few().say(f"put 9 {number}..{number},0..0"), "done 5" if due else "refused NoText")

    def test_questions(self):
        for line in ("ask anything at {}", "count anything at {}", "near 1 0..0,0..0 at {}", "pairs 1 at {}", "meet {} 5", "meet 5 {}",
                     "close at {}", "watch anything at {}"):
            self.bound(line, BEAT)
        for line in ("ask anything in {}", "count anything in {}", "near 1 0..0,0..0 in {}", "pairs 1 in {}", "meet 1 5 in {}",
                     "close in {}"):
            self.bound(line, HANDLE)
        self.bound("pairs {}", FAR)
        self.bound("near {} 0..0,0..0", "1000")
        self.bound("near 1 {}..{},0..0", PLACE, least="-" + PLACE)
        self.bound("heard {}", HANDLE, "refused NoWatch")
        self.bound("unwatch {}", HANDLE, "refused NoWatch")


def number_in(word, least, most):
    return re.fullmatch("0|-?[1-9][0-9]{0,62}", word) is not None and least <= int(word) <= most


def box_in(word, sides):
    parts = [part.split("..") for part in word.split(",")]
    if len(parts) != sides or any(len(part) != 2 for part in parts):
        return False
    return all(all(number_in(end, -10**30, 10**30) for end in part) and int(part[0]) <= int(part[1]) for part in parts)


def speeds_in(word, sides):
    parts = word.split(",")
    return len(parts) == sides and all(number_in(part, -10**15, 10**15) for part in parts)


class LineByTheWords:
    """[11.1] and [11.2] once more: whether a line is good, NoText or NoWant, by patterns of words."""

    CHECKS = {
        "HANDLE": lambda word, sides: number_in(word, 0, 10**18), "BOX": box_in, "SPEEDS": speeds_in,
        "MARKS": lambda word, sides: number_in(word, 0, 65535), "WORTH": lambda word, sides: number_in(word, -10**30, 10**30),
        "MANY": lambda word, sides: number_in(word, 0, 1000), "FAR": lambda word, sides: number_in(word, 0, 10**62),
        "BEAT": lambda word, sides: number_in(word, 0, 10**15), "NUMBER": lambda word, sides: number_in(word, 0, 10**18)}
    FORMS = (
        ("put", "HANDLE BOX|drift SPEEDS|marks MARKS|worth WORTH"), ("take", "HANDLE"), ("move", "HANDLE BOX|drift SPEEDS"),
        ("stamp", "HANDLE MARKS WORTH"), ("ask", "WANT"), ("count", "WANT"), ("near", "MANY BOX|of WANT"), ("pairs", "FAR"),
        ("meet", "BEAT BEAT"), ("close", ""), ("watch", "WANT"), ("heard", "NUMBER"), ("unwatch", "NUMBER"))

    def __init__(self, line, sides):
        self.sides = sides
        first, *self.words = line.split(" ")
        self.fault, self.want = None, None
        form = dict(self.FORMS).get(first)
        if form is None:
            self.fault = "NoText"
            return
        if first in ("ask", "count", "near", "pairs", "meet", "close"):
            self.ending("in", "NUMBER")
        if first in ("ask", "count", "near", "pairs", "close", "watch"):
            self.ending("at", "BEAT")
        must, *may = form.split("|")
        self.row(must.split(), True)
        for row in may:
            self.row(row.split(), False)
        if self.words:
            self.fault = "NoText"

    def ending(self, word, kind):
        if len(self.words) > 1 and self.words[-2] == word:
            if not self.CHECKS[kind](self.words[-1], self.sides):
                self.fault = "NoText"
            del self.words[-2:]

    def row(self, kinds, must):
        if not must and self.words[:1] != kinds[:1]:
            return
        for kind in kinds:
            if not self.words:
                self.fault = "NoText"
            elif kind == "WANT":
                self.want, self.words = " ".join(self.words), []
            elif kind in self.CHECKS and not self.CHECKS[kind](self.words[0], self.sides):
                self.fault = "NoText"
            self.words = self.words[1:]

    def told(self):
        if self.fault is None and self.want is not None:
            try:
                want_of(self.want, self.sides)
            except NoWant:
                return "NoWant"
        return self.fault or "good"


class SpoiltByChance(Talking):
    GOOD = (
        "put 9 0..0,0..0", "put 9 -1..5,0..0 drift 1,-1 marks 1 worth -1", "take 1", "move 1 0..0,0..0 drift 1,1", "stamp 1 1 1",
        "ask anything", "ask not ( marked 1 or meets 0..1,0..1 ) at 1 in 1", "count worthy 1 at 3", "near 1 0..0,0..0 of anything at 1 in 1",
        "near 5 0..0,0..0", "pairs 9 at 1 in 1", "meet 0 5 in 1", "close at 1 in 1", "watch anything at 5", "heard 0", "unwatch 0")
    WORDS = (
        "", "at", "in", "of", "0", "1", "-1", "01", "2000", "0..0,0..0", "1..0,0..0", "0..0", "1,1", "drift", "marks", "worth", "anything",
        "not", "and", "(", ")", "near", "ask", "marked", "65536")

    def test_the_oracle_takes_what_is_good(self):
        for line in self.GOOD + FEW:
            self.assertEqual(LineByTheWords(line, 2).told(), "good", line)

    def test_lines_spoilt_by_chance(self):
        row = Row(201)
        seen = {"good": 0, "NoText": 0, "NoWant": 0}
        for count in range(6000):
            words = self.GOOD[row.number(0, len(self.GOOD) - 1)].split(" ")
            for _ in range(row.number(1, 3)):
                place, word = row.number(0, len(words)), self.WORDS[row.number(0, len(self.WORDS) - 1)]
                words[place:place + row.number(0, 1)] = [word] * row.number(0, 1)
            line, talk = " ".join(words), few()
            due = LineByTheWords(line, 2).told()
            seen[due] += 1
            before = state_of(talk.store_now())
            told = talk.say(line)
            self.assertEqual(told in ("refused NoText", "refused NoWant"), due != "good", line)
            if due != "good":
                self.assertEqual(told, "refused " + due, line)
            if told.startswith("refused"):
                self.assertEqual(state_of(talk.store_now()), before)
        self.assertGreater(min(seen.values()), 200)


if __name__ == "__main__":
    unittest.main()
