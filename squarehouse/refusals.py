"""The numbers below 0 by which a call is refused."""

NO_SUCH = -2
NOTHING_THERE = -6
NOT_BEGUN = -11
ALREADY = -17
WRONG = -22
FULL = -28
NONE_FOUND = -33
