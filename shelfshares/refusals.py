"""The numbers that refusals answer."""

NONE_SUCH = -2
NONE = -6
NOT_BEGUN = -11
OUT_OF_RANGE = -22
TOO_MANY = -28
