"""A talk: lines said to a store, each answered by one text."""

from driftwood.answers import (
    ask_text, close_text, count_text, done_text, heard_text, meet_text, near_text, pairs_text, watch_text)
from driftwood.bounds import (
    BEAT_BOUND, FAR_BOUND, HANDLE_BOUND, MARKS_BOUND, MOST_THINGS, NUMBER_BOUND, WORTH_BOUND)
from driftwood.errors import NoHandle, NoRoom, NoText, NoView, NoWant, NoWatch, Twice
from driftwood.figures import box_read, number_read, speeds_read
from driftwood.store import Store
from driftwood.wantread import want_of


def good(value):
    if value is None:
        raise NoText("a word that is not as it should be")
    return value


# Holds the words of a line that are still to be read: they are taken from the front, but for the endings.
class LineReader:
    def __init__(self, words, sides):
        self.words = words
        self.sides = sides

    def word_taken(self):
        if len(self.words) == 0:
            raise NoText("the line ends too soon")
        word = self.words[0]
        self.words = self.words[1:]
        return word

    def number_taken(self, least, most):
        return good(number_read(self.word_taken(), least, most))

    def handle_taken(self):
        return self.number_taken(0, HANDLE_BOUND)

    def beat_taken(self):
        return self.number_taken(0, BEAT_BOUND)

    def marks_taken(self):
        return self.number_taken(0, MARKS_BOUND)

    def worth_taken(self):
        return self.number_taken(-WORTH_BOUND, WORTH_BOUND)

    def box_taken(self):
        return good(box_read(self.word_taken(), self.sides))

    def goes_on(self, word):
        if len(self.words) == 0 or self.words[0] != word:
            return False
        self.word_taken()
        return True

    # Speeds where the line goes on with them, else None.
    def drift_taken(self):
        return good(speeds_read(self.word_taken(), self.sides)) if self.goes_on("drift") else None

    def ending_taken(self, word, most, left_out):
        if len(self.words) < 2 or self.words[-2] != word:
            return left_out
        number = good(number_read(self.words[-1], 0, most))
        self.words = self.words[:-2]
        return number

    def view_ending(self):
        return self.ending_taken("in", NUMBER_BOUND, None)

    def beat_ending(self):
        return self.ending_taken("at", BEAT_BOUND, 0)

    def check_end(self):
        if len(self.words) > 0:
            raise NoText("words too many")

    # To be called last of all: a want is refused only where all else of the line is good.
    def want_taken(self):
        if len(self.words) == 0:
            raise NoText("no want")
        return want_of(" ".join(self.words), self.sides)


def put_said(store, line):
    handle = line.handle_taken()
    box = line.box_taken()
    speeds = line.drift_taken()
    marks = line.marks_taken() if line.goes_on("marks") else 0
    worth = line.worth_taken() if line.goes_on("worth") else 0
    line.check_end()
    return done_text(store.put(handle, box, speeds, marks, worth))


def take_said(store, line):
    handle = line.handle_taken()
    line.check_end()
    return done_text(store.take(handle))


def move_said(store, line):
    handle = line.handle_taken()
    box = line.box_taken()
    speeds = line.drift_taken()
    line.check_end()
    return done_text(store.move(handle, box, speeds))


def stamp_said(store, line):
    handle = line.handle_taken()
    marks = line.marks_taken()
    worth = line.worth_taken()
    line.check_end()
    return done_text(store.stamp(handle, marks, worth))


def ask_said(store, line):
    view = line.view_ending()
    beat = line.beat_ending()
    want = line.want_taken()
    return ask_text(store.tree_at(view), want, beat)


def count_said(store, line):
    view = line.view_ending()
    beat = line.beat_ending()
    want = line.want_taken()
    return count_text(store.tree_at(view), want, beat)


def near_said(store, line):
    view = line.view_ending()
    beat = line.beat_ending()
    many = line.number_taken(0, MOST_THINGS)
    box = line.box_taken()
    if line.goes_on("of"):
        want = line.want_taken()
    else:
        line.check_end()
        want = None
    return near_text(store.tree_at(view), box, many, beat, want)


def pairs_said(store, line):
    view = line.view_ending()
    beat = line.beat_ending()
    far = line.number_taken(0, FAR_BOUND)
    line.check_end()
    return pairs_text(store.tree_at(view), far, beat)


def meet_said(store, line):
    view = line.view_ending()
    first = line.beat_taken()
    last = line.beat_taken()
    line.check_end()
    return meet_text(store.tree_at(view), first, last)


def close_said(store, line):
    view = line.view_ending()
    beat = line.beat_ending()
    line.check_end()
    return close_text(store.tree_at(view), beat)


def watch_said(store, line):
    beat = line.beat_ending()
    want = line.want_taken()
    return watch_text(store.watch(want, beat))


def heard_said(store, line):
    number = line.number_taken(0, NUMBER_BOUND)
    line.check_end()
    return heard_text(store.heard(number))


def unwatch_said(store, line):
    number = line.number_taken(0, NUMBER_BOUND)
    line.check_end()
    store.unwatch(number)
    return "gone"


SAID = {
    "put": put_said, "take": take_said, "move": move_said, "stamp": stamp_said, "ask": ask_said, "count": count_said,
    "near": near_said, "pairs": pairs_said, "meet": meet_said, "close": close_said, "watch": watch_said,
    "heard": heard_said, "unwatch": unwatch_said,
}


def answered(store, text):
    words = text.split(" ")
    if words[0] not in SAID:
        raise NoText("a word that begins no line")
    return SAID[words[0]](store, LineReader(words[1:], store.sides))


def answer_to(store, text):
    try:
        return answered(store, text)
    except NoText:
        return "refused NoText"
    except NoWant:
        return "refused NoWant"
    except NoHandle:
        return "refused NoHandle"
    except Twice:
        return "refused Twice"
    except NoRoom:
        return "refused NoRoom"
    except NoView:
        return "refused NoView"
    except NoWatch:
        return "refused NoWatch"


class Talk:
    def __init__(self, sides, room):
        self.store = Store(sides, room)

    def say(self, line):
        return answer_to(self.store, line)

    def store_now(self):
        return self.store


def talked(lines, sides, room):
    talk = Talk(sides, room)
    return tuple([talk.say(line) for line in lines])
