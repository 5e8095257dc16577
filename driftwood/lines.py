"""What a store holds, written as the lines that would put it there."""

from driftwood.figures import box_written, speeds_written
from driftwood.things import thing_box, thing_handle, thing_marks, thing_speeds, thing_worth


def is_still(speeds):
    return all([speed == 0 for speed in speeds])


def thing_line(thing):
    words = ["put", str(thing_handle(thing)), box_written(thing_box(thing, 0))]
    speeds = thing_speeds(thing)
    if not is_still(speeds):
        words.extend(["drift", speeds_written(speeds)])
    if thing_marks(thing) != 0:
        words.extend(["marks", str(thing_marks(thing))])
    if thing_worth(thing) != 0:
        words.extend(["worth", str(thing_worth(thing))])
    return " ".join(words)


def store_lines(store):
    return tuple([thing_line(store.thing_of(handle)) for handle in store.handles()])
