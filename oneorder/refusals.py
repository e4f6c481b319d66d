"""The numbers by which a call is refused."""

NOT_THERE = -2
CLOSED = -11
WRONG = -22
FULL = -28
