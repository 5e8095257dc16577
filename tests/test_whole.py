"""[0.1] to [0.3]: long rows of deeds and questions against a plain list of things."""

import unittest

from driftwood.ask import all_that, how_many
from driftwood.boxes import box_gap, boxes_meet
from driftwood.closest import closest_pair
from driftwood.examine import paper_stands
from driftwood.join import meetings_of, near_pairs
from driftwood.joinexam import closest_stands, meetings_stand, pairs_stand
from driftwood.lines import store_lines
from driftwood.near import near_stands, nearest
from driftwood.pages import things_in, tree_ills
from driftwood.store import Store
from driftwood.talk import Talk, talked
from driftwood.things import make_thing, thing_box
from tests.helper import Row, mixed_want, suits_by_the_words, told_plainly


def box_text(box):
    return ",".join(f"{low}..{high}" for low, high in box)


def joined(words):
    return " ".join(words) or "none"


class PlainList:
    """A list of things, each question going through all of them; it answers lines like a talk."""

    def __init__(self):
        self.views = [[]]
        self.watches = []

    def change(self, old, new):
        self.views.append([thing for thing in self.views[-1] if thing != old] + ([] if new is None else [new]))
        for watch in self.watches:
            want, beat, news = watch
            before, behind = [thing is not None and suits_by_the_words(want, thing, beat) for thing in (old, new)]
            if before != behind:
                news.append("+-"[before] + str((new or old)[0]))
        return f"done {len(self.views) - 1}"

    def suiting(self, want, beat, view):
        return sorted(thing for thing in self.views[view] if want is None or suits_by_the_words(want, thing, beat))

    def ask(self, want, beat, view):
        return joined(str(thing[0]) for thing in self.suiting(want, beat, view))

    def count(self, want, beat, view):
        things = self.suiting(want, beat, view)
        return f"{len(things)} {sum(thing[3] for thing in things)}"

    def near(self, many, box, want, beat, view):
        rows = sorted((box_gap(thing_box(thing, beat), box), thing[0]) for thing in self.suiting(want, beat, view))
        return joined(f"{gap}:{handle}" for gap, handle in rows[:many])

    def couples(self, view):
        things = sorted(self.views[view])
        return [(a, b) for a in things for b in things if a[0] < b[0]]

    def gaps(self, beat, view):
        return sorted((box_gap(thing_box(a, beat), thing_box(b, beat)), a[0], b[0]) for a, b in self.couples(view))

    def pairs(self, far, beat, view):
        return joined(f"{one}-{two}" for one, two in sorted(row[1:] for row in self.gaps(beat, view) if row[0] <= far))

    def meet(self, first, last, view):
        rows = []
        for a, b in self.couples(view):
            beats = [beat for beat in range(first, last + 1) if boxes_meet(thing_box(a, beat), thing_box(b, beat))]
            rows += [(beat, a[0], b[0]) for beat in beats[:1]]
        return joined(f"{beat}:{one}-{two}" for beat, one, two in sorted(rows))

    def close(self, beat, view):
        return joined(f"{gap}:{one}-{two}" for gap, one, two in self.gaps(beat, view)[:1])

    def watch(self, want, beat):
        self.watches.append((want, beat, []))
        return " ".join([str(len(self.watches) - 1)] + [str(thing[0]) for thing in self.suiting(want, beat, -1)])

    def heard(self, number):
        told = joined(self.watches[number][2])
        self.watches[number][2].clear()
        return told


class MixedTalk:
    """A long talk by chance, with the answers of a plain list."""

    def __init__(self, row, sides):
        self.row, self.sides, self.plain = row, sides, PlainList()

    def here(self):
        return sorted(self.plain.views[-1])

    def line(self, most):
        """A line and its due answer."""
        many = len(self.here())
        kind = self.row.number(0, 13)
        if many == 0 or many < most and kind < 4:
            return self.put()
        if kind < 7:
            return (self.take, self.move, self.stamp)[self.row.number(0, 2)]()
        return (self.ask, self.count, self.near, self.pairs, self.meet, self.close, self.heard)[kind - 7]()

    def any_thing(self):
        return self.here()[self.row.number(0, len(self.here()) - 1)]

    def put(self):
        thing = self.row.small_thing(self.row.number(0, 10**18), self.sides)
        return f"put {thing[0]} {self.place(thing)} marks {thing[2]} worth {thing[3]}", self.plain.change(None, thing)

    def place(self, thing):
        return box_text(thing_box(thing, 0)) + " drift " + ",".join(str(side[2]) for side in thing[1])

    def take(self):
        thing = self.any_thing()
        return f"take {thing[0]}", self.plain.change(thing, None)

    def move(self):
        old = self.any_thing()
        new = self.row.small_thing(old[0], self.sides)[:2] + old[2:]
        return f"move {old[0]} {self.place(new)}", self.plain.change(old, new)

    def stamp(self):
        old = self.any_thing()
        new = old[:2] + self.row.small_thing(old[0], self.sides)[2:]
        return f"stamp {old[0]} {new[2]} {new[3]}", self.plain.change(old, new)

    def when(self):
        """A beat and a view, and the words for them."""
        beat, view = self.row.number(0, 5), self.row.number(0, len(self.plain.views) - 1)
        at, beat = ((f" at {beat}", beat), ("", 0))[self.row.number(0, 1)]
        inside, view = ((f" in {view}", view), ("", -1))[self.row.number(0, 1)]
        return beat, view, at + inside

    def want(self):
        return mixed_want(self.row, self.sides, 2)

    def ask(self):
        want, (beat, view, words) = self.want(), self.when()
        return f"ask {want.written()}{words}", self.plain.ask(want, beat, view)

    def count(self):
        want, (beat, view, words) = self.want(), self.when()
        return f"count {want.written()}{words}", self.plain.count(want, beat, view)

    def near(self):
        box, many, (beat, view, words) = self.row.box(self.sides, 9), self.row.number(0, 30), self.when()
        if self.row.number(0, 1):
            return f"near {many} {box_text(box)}{words}", self.plain.near(many, box, None, beat, view)
        want = self.want()
        return f"near {many} {box_text(box)} of {want.written()}{words}", self.plain.near(many, box, want, beat, view)

    def pairs(self):
        far, (beat, view, words) = self.row.number(0, 40), self.when()
        return f"pairs {far}{words}", self.plain.pairs(far, beat, view)

    def meet(self):
        first, last, view = self.row.number(0, 4), self.row.number(0, 9), self.row.number(0, len(self.plain.views) - 1)
        return f"meet {first} {last} in {view}", self.plain.meet(first, last, view)

    def close(self):
        beat, view, words = self.when()
        return f"close{words}", self.plain.close(beat, view)

    def heard(self):
        if len(self.plain.watches) < 8:
            want, beat = self.want(), self.row.number(0, 5)
            return f"watch {want.written()} at {beat}", self.plain.watch(want, beat)
        number = self.row.number(0, 7)
        return f"heard {number}", self.plain.heard(number)


class LongRows(unittest.TestCase):
    def test_long_talks(self):
        for count, (most, lines) in enumerate(((5, 400), (12, 500), (30, 400), (60, 300), (5, 400), (25, 400))):
            row, sides, room = Row(210 + count), 2 + count % 2, (4, 5, 6, 4, 16, 9)[count]
            mixed, talk, said = MixedTalk(row, sides), Talk(sides, room), []
            for _ in range(lines):
                line, due = mixed.line(most)
                self.assertEqual(talk.say(line), due, line)
                said.append((line, due))
            store = talk.store_now()
            for view in range(store.deeds_done() + 1):
                top = store.tree_at(view)
                self.assertEqual(tree_ills(top, room), ())
                self.assertEqual(sorted(things_in(top)), sorted(mixed.plain.views[view]))
            self.assertEqual(talked(tuple(line for line, due in said), sides, room), tuple(due for line, due in said))
            self.assertEqual(len(talked(store_lines(store), sides, room)), len(store.handles()))

    def test_the_room_does_not_change_an_answer(self):
        mixed = MixedTalk(Row(220), 2)
        lines = tuple(mixed.line(40)[0] for _ in range(300))
        answers = {talked(lines, 2, room) for room in range(4, 17)}
        self.assertEqual(len(answers), 1)


class Papers(unittest.TestCase):
    def test_whatever_deeds_were_done_each_paper_stands(self):
        row = Row(221)
        for room in (4, 7, 16):
            store = Store(3, room)
            for handle in range(160):
                thing = row.small_thing(handle, 3)
                box, speeds = thing_box(thing, 0), tuple(side[2] for side in thing[1])
                known = store.handles()
                one = known[row.number(0, len(known) - 1)] if known else None
                if one is None or row.number(0, 2) or handle < 60:
                    store.put(handle, box, speeds, *thing[2:])
                else:
                    (lambda: store.take(one), lambda: store.move(one, box, speeds))[row.number(0, 1)]()
                if handle % 10:
                    continue
                top, other = store.tree_at(), store.tree_at(row.number(0, store.deeds_done()))
                want, beat, spot = mixed_want(row, 3, 2), row.number(0, 5), row.box(3, 9)
                answer, paper = all_that(top, want, beat)
                self.assertEqual(how_many(top, want, beat)[0], len(answer))
                self.assertIs(paper_stands(top, want, beat, answer, paper), True)
                self.assertIs(near_stands(top, spot, 5, beat, want, *nearest(top, spot, 5, beat, want)), True)
                self.assertIs(pairs_stand(top, other, 20, beat, *near_pairs(top, other, 20, beat)), True)
                self.assertIs(meetings_stand(top, other, 0, 4, *meetings_of(top, other, 0, 4)), True)
                self.assertIs(closest_stands(top, other, beat, *closest_pair(top, other, beat)), True)

    def test_at_the_bounds(self):
        """[0.2]: the farthest places, speeds and beats."""
        place, last = 10**30, 10**15
        store = Store(2, 4)
        ends = (-place, place)
        things = []
        for handle, (low, high, speed) in enumerate([(low, high, speed) for low in ends for high in ends for speed in (-last, last)]):
            box = ((low, low), (high, high))
            store.put(10**18 - handle, box, (speed, -speed), 65535, low)
            things.append(make_thing(10**18 - handle, box, (speed, -speed), 65535, low))
        row = closest_pair(store.tree_at(), store.tree_at(), last)[0]
        due = min((box_gap(thing_box(a, last), thing_box(b, last)), a[0], b[0]) for a in things for b in things if a != b)
        self.assertEqual(row, due)
        spot = ((place, place), (-place, -place))
        self.assertEqual(
            nearest(store.tree_at(), spot, 8, last)[0], tuple(sorted((box_gap(thing_box(a, last), spot), a[0]) for a in things)))
        self.assertTrue(told_plainly(nearest(store.tree_at(), spot, 8, last)))


if __name__ == "__main__":
    unittest.main()
