"""The numbers of the refusals."""

NOT_THERE = -2
NOTHING_TO_END = -6
ALREADY_SO = -17
OUT_OF_BOUNDS = -22
FULL = -28
CANNOT_BE = -33
