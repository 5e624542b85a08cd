"""The numbers that refusals are answered by."""

MISSING = -2
EMPTY = -6
WRONG = -22
FULL = -28
UNFIT = -33
NO_ROOM = -62
