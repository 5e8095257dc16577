"""Numbers, boxes and speeds as texts: written, and read back, None where a word writes none."""

from driftwood.bounds import PLACE_BOUND, SPEED_BOUND

FIGURES = "0123456789"
MOST_FIGURES = 63


def box_written(box):
    return ",".join([f"{low}..{high}" for low, high in box])


def speeds_written(speeds):
    return ",".join([str(speed) for speed in speeds])


# The figures are looked at one by one: Python's own reading also takes blanks, strokes and other alphabets' figures.
def writes_number(word):
    figures = word[1:] if word.startswith("-") else word
    if len(figures) == 0 or len(figures) > MOST_FIGURES:
        return False
    if figures[0] == "0" and word != "0":
        return False
    return all([sign in FIGURES for sign in figures])


def number_read(word, least, most):
    if not writes_number(word):
        return None
    number = int(word)
    return number if least <= number <= most else None


def side_read(word):
    ends = [number_read(part, -PLACE_BOUND, PLACE_BOUND) for part in word.split("..")]
    if len(ends) != 2 or None in ends or ends[0] > ends[1]:
        return None
    return tuple(ends)


def box_read(word, sides):
    read = [side_read(part) for part in word.split(",")]
    if len(read) != sides or None in read:
        return None
    return tuple(read)


def speeds_read(word, sides):
    read = [number_read(part, -SPEED_BOUND, SPEED_BOUND) for part in word.split(",")]
    if len(read) != sides or None in read:
        return None
    return tuple(read)
