"""The numbers that are answered first: the one for what is done, and those of the refusals."""

DONE = 0
NOT_RIGHT = -1
OTHER_STRANDS = -2
TOO_LARGE = -3
EMPTY = -4

LONGEST_ROW = 100
