"""The numbers with which a call is refused."""

NONE_SUCH = -2
NO_CHART = -6
NOT_BEGUN = -11
SERVE_FIRST = -12
NOT_NOW = -13
NOT_SO = -16
ALREADY = -17
OUT_OF_RANGE = -22
TOO_MANY = -28
CANNOT_BE = -33
