"""Rows of pairs (woven number, handle), combed for a box."""

from driftwood.weave import next_in


# Halving is right because the row rises by woven number.
def place_from(row, number, start):
    end = len(row)
    while start < end:
        middle = (start + end) // 2
        if row[middle][0] < number:
            start = middle + 1
        else:
            end = middle
    return start


def combed(row, box, bits):
    handles = []
    place = 0
    while place < len(row):
        number = next_in(row[place][0], box, bits)
        if number is None:
            break
        # What lies between here and the next number of the box is leapt over unseen.
        place = place_from(row, number, place)
        while place < len(row) and row[place][0] == number:
            handles.append(row[place][1])
            place += 1
    return tuple(handles)
