"""The greatest numbers that a thing, a want or a line may name; places, speeds and worths go as far below nought."""

PLACE_BOUND = 1_000_000_000_000_000_000_000_000_000_000
SPEED_BOUND = 1_000_000_000_000_000
BEAT_BOUND = 1_000_000_000_000_000
HANDLE_BOUND = 1_000_000_000_000_000_000
# The number of a watch or a view, as a line may name it.
NUMBER_BOUND = 1_000_000_000_000_000_000
MARKS_BOUND = 65535
WORTH_BOUND = 1_000_000_000_000_000_000_000_000_000_000
# A squared distance: far enough for any two places, so it has twice the figures and some more.
FAR_BOUND = 100_000_000_000_000_000_000_000_000_000_000_000_000_000_000_000_000_000_000_000_000
# What a store, a tree or a row holds, and so what may be asked for of the nearest.
MOST_THINGS = 1000
LEAST_ROOM = 4
MOST_ROOM = 16
