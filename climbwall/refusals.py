"""The numbers that stand for a refused call."""

NO_SUCH = -2
NONE_AT_ALL = -6
NOT_BEGUN = -11
SO_ALREADY = -17
OUT_OF_RANGE = -22
TOO_MANY = -28
NO_WAY = -33
MUST_LEAD = -61
