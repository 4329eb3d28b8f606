"""The numbers that are answered where a call is refused."""

NO_QUANTITY = -2
NONE_THERE = -6
NOT_BEGUN = -11
NOT_RIGHT = -22
TOO_MANY = -28
CANNOT_BE = -33
