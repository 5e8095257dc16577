"""The beats at which something holds, told as a pair (from, to), or None where there are none."""


def beats_of(need, rise, first, last):
    if rise == 0 and need > 0:
        return None
    start = first
    end = last
    if rise > 0:
        # Rounded up: at the whole beat below, the need is not met yet.
        start = max(first, -(-need // rise))
    if rise < 0:
        end = min(last, need // rise)
    if start > end:
        return None
    return (start, end)


# Of the beats of span, those at which the low of one is not above the high of two.
def beats_below(one, two, span):
    if span is None:
        return None
    return beats_of(one[0] - two[1], two[3] - one[2], span[0], span[1])


# Each end is held against the other one by itself, so frames with turned ends need no case of their own.
def meeting(one, two, first, last):
    span = (first, last)
    for a, b in zip(one, two):
        span = beats_below(a, b, span)
        span = beats_below(b, a, span)
    return span
