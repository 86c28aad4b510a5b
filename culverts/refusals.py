"""The numbers by which a call is refused."""

NONE_SUCH = -2
NOT_BEGUN = -11
ALREADY_SO = -17
OUT_OF_RANGE = -22
TOO_MANY = -28
CANNOT_BE = -33
