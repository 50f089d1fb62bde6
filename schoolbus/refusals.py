"""The numbers with which a call is refused."""

NO_SUCH = -2
NONE_AT_ALL = -6
NOT_BEGUN = -11
CLOSED = -16
ALREADY_SO = -17
OUT_OF_RANGE = -22
TOO_MANY = -28
CANNOT_BE = -33
