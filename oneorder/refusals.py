"""The numbers by which a call is refused."""

NOT_THERE = -2
CLOSED = -11
NOTHING_LACKS = -11
NOT_CLOSED = -16
WRONG = -22
FULL = -28
NOT_RIGHT = -71
