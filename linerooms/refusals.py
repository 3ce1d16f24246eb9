"""The numbers that refusals are answered by."""

NONE_SUCH = -2
ONLY_ONE = -6
NOT_BEGUN = -11
SO_ALREADY = -17
OUT_OF_RANGE = -22
TOO_MANY = -28
